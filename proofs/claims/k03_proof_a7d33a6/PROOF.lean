import PyProof.Rows.All
import Wide.All
import OpenK.AllK
import Wide.FinOn
import HandS.ForMost
import HandS.Strs
import HandS.Zip
import HandS.IsInst
import HandS.WordsExc
import HandS.Style
import HandS.Lambda
import KE.KExcIs
import HandS.ExcIs
import PySem.Challenge.RW_labelclocks_k03_texts_of_kinds_both_ways
import HandS.DeepEq
import HandS.Walk
import HandS.ExcOwn
import HandS.TupAny
import HandS.ExcInit
import HandS.ExcField
import HandS.ClsMeth
import KE.IntTextLaws
import HandS.FStr
import KE.IntTextText
import HandS.CallLocal
import HandS.EndTab
import KE.KNestM
set_option Elab.async false
set_option linter.all false
set_option pp.maxSteps 900
set_option maxRecDepth 100000
set_option maxHeartbeats 2000000
/-! the set of a list of texts, however many (below 1000) -/
namespace K3
open PySem PySem.Spec PyProof.Rows
def grow (a : List Str) (x : Str) : List Str := if a.any (· == x) = true then a else a ++ [x]
def met (xs : List Str) : List Str := xs.foldl grow []
theorem met_step {xs : List Str} {i : Nat} {x : Str} (h : xs[i]? = some x) : met (xs.take (i + 1)) = grow (met (xs.take i)) x := by
  have e : xs.take (i + 1) = xs.take i ++ [x] := by rw [List.take_succ, h] <;> rfl
  unfold met
  rw [e, List.foldl_append]
  rfl
theorem grow_len (a : List Str) (x : Str) : (grow a x).length ≤ a.length + 1 := by
  unfold grow
  split
  · omega
  · rw [List.length_append]
    exact Nat.le_refl _
theorem fold_len : ∀ (xs a : List Str), (xs.foldl grow a).length ≤ a.length + xs.length
  | [], a => Nat.le_refl _
  | x :: xs, a => by
    have h1 := fold_len xs (grow a x)
    have h2 := grow_len a x
    show (xs.foldl grow (grow a x)).length ≤ a.length + (xs.length + 1)
    omega
theorem met_len (xs : List Str) : (met xs).length ≤ xs.length := by
  have h := fold_len xs []
  show (xs.foldl grow []).length ≤ xs.length
  simpa using h
theorem grow_any (a : List Str) (x k : Str) : (grow a x).any (· == k) = (a.any (· == k) || decide (k = x)) := by
  unfold grow
  split
  · rename_i h
    by_cases e : k = x
    · rw [e, h]
      rfl
    · rw [decide_eq_false e, Bool.or_false]
  · rw [List.any_append]
    by_cases e : k = x
    · rw [e, decide_eq_true rfl]
      simp
    · rw [decide_eq_false e]
      have : ([x].any (· == k)) = false := by simpa [beq_iff_eq] using fun h : x = k => e h.symm
      rw [this]
def txtSet (P : Program) (w : World) (h : Heap) (a : Addr) (l : List Str) : Prop := h.SetOf (PySem.strKind P w) a (fun k => l.any (· == k)) l.length
section
variable {P : Program} {w : World} {A : Around}
theorem txtSet_same {h h' : Heap} {a : Addr} {l : List Str} (z : txtSet P w h a l) (k : ∀ o, h.get? a = some o → h'.get? a = some o) : txtSet P w h' a l := by
  obtain ⟨o, es, ep, t, ho, r⟩ := z
  exact ⟨o, es, ep, t, k o ho, r⟩
theorem txtSet_fresh {h : Heap} {a : Addr} {led : Bool} (e : h.get? a = some { cls := .type "set", dict := none, data := .set #[] 0 (.fresh 0 0 led) }) : txtSet P w h a [] :=
  SetOf_congr ((setObjOf_fresh (knd := PySem.strKind P w) led).setOf e (by decide)) (fun _ => rfl) rfl
/-- the texts still to come, one by one -/
theorem update_txt {R : Result → Shared → Prop} {I : Addr} {fp wr : List Addr} {G : Array GenState → Array GenState → Prop} {n : Nat} {Pv : Nat → Value → Prop} {St : Nat → Shared → Prop}
    (W : WalksS P w A.in1 I fp wr G n Pv St) {a : Addr} (ha : a ∉ fp) {xs : List Str} (hn : xs.length = n) (few : xs.length < 1000) (hv : ∀ i v, Pv i v → ∃ x t, xs[i]? = some x ∧ v = .str x t) :
    ∀ (m i : Nat) (s : Shared), n - i = m → i ≤ n → St i s → txtSet P w s.heap a (met (xs.take i)) →
      (∀ s', Moved (a :: wr) G s s' → txtSet P w s'.heap a (met xs) → R (.ok (.ret .none)) s') → codeAny (model P w) A (.builtin "set.update.loop" ⟨[.ref a, .ref I], []⟩) R s := by
  have aw : a ∉ wr := fun z => ha (W.sub _ z)
  have up : ∀ b ∈ wr, b ∈ a :: wr := fun b z => List.mem_cons_of_mem _ z
  intro m
  induction m with
  | zero =>
    intro i s e hi st z hR
    obtain rfl : i = n := by omega
    refine codeAny_builtin F.entry_set_update_loop ?_
    rw [Around.under_plainId F.plain_set_update_loop _]
    refine wpAny_bind (W.done s _ _ st fun s' mv => ?_)
    refine wpAny_pure (hR s' (mv.mono up) ?_)
    have z' := txtSet_same z fun o q => mv.heap a o aw q
    rw [← hn, List.take_length] at z'
    exact z'
  | succ m ih =>
    intro i s e hi st z hR
    refine codeAny_builtin F.entry_set_update_loop ?_
    rw [Around.under_plainId F.plain_set_update_loop _]
    refine wpAny_bind (W.item i s _ _ (by omega) st fun v s' hp st' mv => ?_)
    obtain ⟨x, t, hx, rfl⟩ := hv i v hp
    have z' := txtSet_same z fun o q => mv.heap a o aw q
    have hl := met_len (xs.take i)
    rw [List.length_take] at hl
    refine wpAny_bind (wpAny_holding ?_)
    unfold setAdd
    refine wpAny_holding (wpAny_bind ((PySem.strKind P w).pyHash (k := x) (strKind_is _ _ _ _) ?_))
    refine wpAny_setAddHashed_of (knd := PySem.strKind P w) (s := { s' with toks := s'.toks + 1 }) (strKind_is _ _ _ _) rfl z' (by unfold scanBound; omega) fun h' sb z2 => ?_
    have z3 : txtSet P w h' a (met (xs.take (i + 1))) := by
      rw [met_step hx]
      refine SetOf_congr z2 (fun k => (grow_any _ _ _).symm) ?_
      unfold grow
      split <;> simp
    refine wpAny_pure ⟨plainId_quiet F.plain_set_update_loop _, ih (i + 1) _ (by omega) (by omega) (W.frame _ s' _ _ st' (Nat.le_succ _) fun b hb o q => ?_) z3 fun s2 mv2 z4 => ?_⟩
    · exact (sb.2 b fun q2 => ha (q2 ▸ hb)).trans q
    · refine hR s2 (Moved.trans W.gtrans ((mv.mono up).then_heap (Nat.le_succ _) fun b o hb q => ?_) mv2) z4
      exact (sb.2 b fun q2 => hb (q2 ▸ List.mem_cons_self)).trans q
end
end K3

set_option Elab.async false
set_option linter.all false
set_option pp.maxSteps 900
set_option maxRecDepth 100000
set_option maxHeartbeats 4000000
namespace K3
open PySem PySem.Spec PyProof.Rows
/-- a set as it is made, empty -/
abbrev emptyS (led : Bool) : Obj := { cls := .type "set", dict := none, data := .set #[] 0 (.fresh 0 0 led) }
section
variable {P : Program} {w : World} {A : Around} {E : Value → Shared → Prop} {s : Shared}
theorem strs_get : ∀ {us : List Value} {xs : List Str}, StrsAre us xs → ∀ (i : Nat) (v : Value), us[i]? = some v → ∃ x t, xs[i]? = some x ∧ v = .str x t
  | _, _, .nil, i, v, h => by cases h
  | _, _, .cons x t r, 0, v, h => ⟨x, t, rfl, (Option.some.inj h).symm⟩
  | _, _, .cons x t r, i + 1, v, h => strs_get r i v h
/-- set.__init__ of the new set at the heap's end -/
theorem init_txt {l : Addr} {items : Array Value} {xs : List Str} {led : Bool} (hh : A.handled = none) (hl : s.heap.IsList l items) (hi : StrsAre items.toList xs) (few : xs.length < 1000) :
    codeAny (model P w) A (.call (.builtin "set.__init__") ⟨[.ref s.heap.objs.size, .ref l], []⟩)
      (wants (fun r s2 => r = .none ∧ ∃ h' tk, s2 = { s with heap := h', toks := tk } ∧ txtSet P w h' s.heap.objs.size (met xs) ∧ ∀ b o, s.heap.get? b = some o → h'.get? b = some o) E) { s with heap := s.heap.push (emptyS led) } := by
  have at_ : (s.heap.push (emptyS led)).get? s.heap.objs.size = some (emptyS led) := Heap.get?_push_size _ rfl
  have ty : Shared.TypeIs { s with heap := s.heap.push (emptyS led) } (.ref s.heap.objs.size) "set" := ⟨_, at_, rfl⟩
  refine codeAny_call_builtin PySem.F.called_set.init.plain PySem.F.entry_set_init (check_set_init_1 ty ?_)
  obtain ⟨⟨ocls, odict, odata, oslots⟩, hol, hcl, nl, hdl⟩ := hl
  cases (show ocls = .type "list" from hcl)
  cases (show odata = .seq items nl from hdl)
  have ll : l < s.heap.objs.size := Heap.lt_size hol
  have size1 : (s.heap.push (emptyS led)).objs.size = s.heap.objs.size + 1 := Heap.size_push ..
  have hol' : (s.heap.push (emptyS led)).get? l = some { cls := .type "list", dict := odict, data := .seq items nl, slots := oslots } := Heap.get?_push_of_some _ hol
  have isl : (s.heap.push (emptyS led)).IsList l items := ⟨_, hol', rfl, nl, rfl⟩
  have s1 := PySem.F.sub_list_set
  have s2 := PySem.F.sub_list_frozenset
  have s3 : (Value.type "list" == Value.type "dict") = false := by decide
  unfold Builtin.«set.__init__» noKeywords Builtin.Frozenset.updateFrom
  generalize hPI : pyIter = PI
  wp_walk
  subst hPI
  refine wpAny_pyIter_list isl (wpAny_bind (wpAny_runValue ?_))
  have h3 : A.in1.in1.handled = none := by simp [hh]
  have nI : l ≠ (s.heap.push (emptyS led)).objs.size := by rw [size1]; exact Nat.ne_of_lt (Nat.lt_succ_of_lt ll)
  have nS : s.heap.objs.size ∉ [(s.heap.push (emptyS led)).objs.size, l] := by
    simp only [List.mem_cons, List.not_mem_nil, or_false, not_or]
    exact ⟨by rw [size1]; exact Nat.ne_of_lt (Nat.lt_succ_self _), Nat.ne_of_gt ll⟩
  have hn : xs.length = items.size := by rw [← StrsAre.len_eq hi, Array.length_toList]
  refine update_txt ((Walks.list h3 _ l nI items).toS) nS hn few (fun i v e => strs_get hi i v (by rw [Array.getElem?_toList]; exact e)) (items.size - 0) 0 _ rfl (Nat.zero_le _)
    ?_ ?_ ?_
  · exact ⟨⟨_, Heap.get?_push_size _ rfl, rfl, rfl⟩, isl.push _⟩
  · exact txtSet_fresh (Heap.get?_push_of_some _ at_)
  · intro s' mv z
    obtain ⟨h', g', d', tk', os'⟩ := s'
    cases (show g' = s.gens from mv.gens)
    cases (show d' = s.drawn from mv.drawn)
    cases (show os' = s.os from mv.os)
    show wpAny _ _ _ _ _ _
    refine wpAny_pure ?_
    show wpAny _ _ (ret Value.none) _ _ _
    refine wpAny_pure ⟨rfl, h', tk', rfl, z, fun b o q => ?_⟩
    have lb := Heap.lt_size q
    refine mv.heap b o ?_ (Heap.get?_push_of_some _ (Heap.get?_push_of_some _ q))
    simp only [List.mem_cons, List.not_mem_nil, or_false, not_or]
    exact ⟨Nat.ne_of_lt lb, by rw [size1]; exact Nat.ne_of_lt (Nat.lt_succ_of_lt lb)⟩
/-- set(xs), xs a list of texts -/
theorem set_txts {l : Addr} {items : Array Value} {xs : List Str} {Q : Value → Shared → Prop} (hh : A.handled = none) (hl : s.heap.IsList l items) (hi : StrsAre items.toList xs) (few : xs.length < 1000)
    (h : ∀ (h' : Heap) (tk : Nat), txtSet P w h' s.heap.objs.size (met xs) → (∀ b o, s.heap.get? b = some o → h'.get? b = some o) → Q (.ref s.heap.objs.size) { s with heap := h', toks := tk }) :
    wpAny (model P w) A (call (.type "set") [.ref l]) Q E s := by
  obtain ⟨c, tl, mro⟩ := PySem.F.called_set.mro
  have m1 := PySem.F.called_set.made
  have m2 := PySem.F.called_set.sub
  refine wpAny_call (codeAny_of_tree ?_)
  show wpAny _ _ (callAny (.type "set") _) _ _ _
  refine wpAny_pure ⟨Code.quiet_builtin _ (by decide +kernel), codeAny_builtin PySem.F.entry_type_call ?_⟩
  rw [Around.under_plain (weight_type_call_type "set" [.ref l] []) rfl]
  have m3 := PySem.F.called_set.notType
  have m4 := PySem.F.called_set.canCreate
  have m5 := PySem.F.typeCall_set_1 (.ref l)
  repeat any_goals first | assumption | wp_step
  refine codeAny_mono (code_set_new_1 (.ref l) (E := E) (Q₁ := fun v s1 => ∃ led, v = .ref s.heap.objs.size ∧ s1 = { s with heap := s.heap.push (emptyS led) }) fun led => ⟨led, rfl, rfl⟩) fun r s1 hr => ?_
  match r, hr with
  | .error e, hr => exact hr
  | .ok .next, hr => exact hr.elim
  | .ok .brk, hr => exact hr.elim
  | .ok .cont, hr => exact hr.elim
  | .ok (.ret v), hr =>
    obtain ⟨led, rfl, rfl⟩ := hr
    have ty : Shared.TypeIs { s with heap := s.heap.push (emptyS led) } (.ref s.heap.objs.size) "set" := ⟨_, Heap.get?_push_size _ rfl, rfl⟩
    have m6 := PySem.F.called_set.init.lookup
    have m7 := PySem.F.called_set.init.bind (.ref s.heap.objs.size)
    repeat any_goals first | assumption | wp_step
    refine codeAny_mono (init_txt (E := E) (led := led) (by simp [hh]) hl hi few) fun r s2 hr => ?_
    match r, hr with
    | .error e, hr => exact hr
    | .ok .next, hr => exact hr.elim
    | .ok .brk, hr => exact hr.elim
    | .ok .cont, hr => exact hr.elim
    | .ok (.ret v), hr =>
      obtain ⟨rfl, h', tk, rfl, z, k⟩ := hr
      repeat any_goals first | assumption | wp_step
      exact h _ _ z k
end
end K3

set_option Elab.async false
set_option linter.all false
set_option pp.maxSteps 900
set_option maxRecDepth 100000
set_option maxHeartbeats 2000000
namespace K3
open PySem PySem.Spec PyProof.Rows L2
def tLenTxts (K : PySem.W.Frag) (ta : TE) : TE := fun σ H Q => ta σ H fun x H1 => ∃ (l : Addr) (xs : List Str), x = .ref l ∧ SqL K H1 l (xs.map V.str) ∧ xs.length < 1000 ∧ Q (.int ((met xs).length : Nat)) H1
theorem pe_lenTxts {X : Cx} {a : Expr} {ta : TE} {p p2 q pos : Pos} (hc : X.calm = true) (hg : Gl X "len") (hm : X.mg "len" = none) (hg2 : Gl X "set") (hm2 : X.mg "set" = none) (ha : PE X a ta)
    (na : starEach [a] X.env = (false, eval a X.env) :: starEach [] X.env := by rfl) : PE X (.Call (.Name "len" p) [.Call (.Name "set" p2) [a] [] q] [] pos) (tLenTxts X.K ta) := by
  constructor
  intro pins s σ H Q I h
  refine Call_ (ld_blt I hg hm boot_len (callWith_builtin1 (args_cons ?_ rfl) rfl rfl))
  refine Call_ (ld_blt I hg2 hm2 boot_set (callWith_type1 (args_cons (thn (ha.run pins s σ H _ I h) fun v s1 hv => args_nil ?_) na) na rfl))
  obtain ⟨x, H1, I1, r1, l, xs, rfl, hq, few, q1⟩ := hv
  obtain rfl : v = Value.ref l := r1
  obtain ⟨its, r, pl, hz⟩ := I1.list hq
  refine set_txts (I1.ok.hd hc) pl.isList (by simpa using strsAre_of r) few fun h' tk z k => args_nil ?_
  obtain ⟨o, es, ep, t, ho, hex, hd, _, _, _, hf, hn⟩ := z
  have I2 : Inv X pins σ H1 { s1 with heap := h', toks := tk } := I1.kept k
  have ml := met_len xs
  exact call_len_set ho hex hd hf (by rw [hn] <;> omega) ⟨.int ((met xs).length : Nat), H1, I2.tok _, ⟨_, by rw [hn]⟩, q1⟩
theorem grow_in {a : List Str} {x : Str} (h : x ∈ a) : grow a x = a := by
  have e : a.any (· == x) = true := List.any_eq_true.mpr ⟨x, h, beq_self_eq_true x⟩
  exact if_pos e
theorem grow_out {a : List Str} {x : Str} (h : x ∉ a) : grow a x = a ++ [x] := by
  have e : ¬ a.any (· == x) = true := fun z => by
    obtain ⟨y, hy, e⟩ := List.any_eq_true.mp z
    have e : y = x := eq_of_beq e
    exact h (e ▸ hy)
  exact if_neg e
theorem fold_nodup : ∀ (xs a : List Str), (∀ x ∈ xs, x ∉ a) → xs.Nodup → xs.foldl grow a = a ++ xs
  | [], a, _, _ => by simp
  | x :: xs, a, h, nd => by
    obtain ⟨h1, h2⟩ := List.nodup_cons.mp nd
    show xs.foldl grow (grow a x) = _
    rw [grow_out (h x List.mem_cons_self), fold_nodup xs (a ++ [x]) (fun y hy z => ?_) h2]
    · simp
    · rcases List.mem_append.mp z with z | z
      · exact h y (List.mem_cons_of_mem _ hy) z
      · exact h1 (List.mem_singleton.mp z ▸ hy)
theorem fold_dup : ∀ (xs a : List Str), (∃ x ∈ xs, x ∈ a) → (xs.foldl grow a).length < a.length + xs.length
  | x :: xs, a, h => by
    show (xs.foldl grow (grow a x)).length < a.length + (xs.length + 1)
    by_cases hx : x ∈ a
    · rw [grow_in hx]
      have := fold_len xs a
      omega
    · rw [grow_out hx]
      obtain ⟨y, hy, hya⟩ := h
      rcases List.mem_cons.mp hy with e | e
      · exact absurd (e ▸ hya) hx
      · have := fold_dup xs (a ++ [x]) ⟨y, e, List.mem_append_left _ hya⟩
        rw [List.length_append] at this
        simp only [List.length_cons, List.length_nil] at this
        omega
theorem fold_dup2 : ∀ (xs a : List Str), (∀ x ∈ xs, x ∉ a) → ¬ xs.Nodup → (xs.foldl grow a).length < a.length + xs.length
  | [], a, _, nd => absurd List.nodup_nil nd
  | x :: xs, a, h, nd => by
    show (xs.foldl grow (grow a x)).length < a.length + (xs.length + 1)
    rw [grow_out (h x List.mem_cons_self)]
    by_cases h1 : x ∈ xs
    · have := fold_dup xs (a ++ [x]) ⟨x, h1, List.mem_append_right _ (List.mem_singleton.mpr rfl)⟩
      rw [List.length_append] at this
      simp only [List.length_cons, List.length_nil] at this
      omega
    · have := fold_dup2 xs (a ++ [x]) (fun y hy z => by
        rcases List.mem_append.mp z with z | z
        · exact h y (List.mem_cons_of_mem _ hy) z
        · exact h1 (List.mem_singleton.mp z ▸ hy)) fun z => nd (List.nodup_cons.mpr ⟨h1, z⟩)
      rw [List.length_append] at this
      simp only [List.length_cons, List.length_nil] at this
      omega
theorem met_dup (xs : List Str) : decide ((met xs).length < xs.length) = !decide xs.Nodup := by
  by_cases h : xs.Nodup
  · have e : met xs = xs := fold_nodup xs [] (fun _ _ z => by cases z) h
    rw [e, decide_eq_true h, decide_eq_false (Nat.lt_irrefl _)]
    rfl
  · have e := fold_dup2 xs [] (fun _ _ z => by cases z) h
    rw [decide_eq_false h, decide_eq_true (by simpa [met] using e)]
    rfl
end K3

set_option Elab.async false
set_option linter.all false
set_option pp.maxSteps 700
set_option maxRecDepth 100000
set_option maxHeartbeats 2000000
namespace K3
open PySem PySem.Spec PyProof.Rows L2
open TL (tl)
def top (i : Nat) : Stmt := PySem.Challenge.pw_labelclocks_k03_texts_of_kinds_both_ways.main.body.getD i (.Pass ⟨0, 0, 0, 0⟩)
theorem ifT {c : Bool} {A B : Prop} (hc : c = true) (h : A) : if c = true then A else B := by
  rw [if_pos hc]
  exact h
theorem ifF {c : Bool} {A B : Prop} (hc : c = false) (h : B) : if c = true then A else B := by
  rw [hc, if_neg Bool.false_ne_true]
  exact h
theorem while_m {c : TT} {tb : TS} {D : Ends} {σ : L2.St} {H : Hp} (Pv : Nat → L2.St → Hp → Prop) (m : Nat) (h0 : Pv m σ H)
    (hs : ∀ n σ H, Pv n σ H → c σ H fun b H1 => if b = true then ∃ N : L2.St → Hp → Prop, (∀ σ' H', N σ' H' → ∃ m', m' < n ∧ Pv m' σ' H') ∧ tb { D with nx := N, ct := N, bk := D.nx } σ H1 else D.nx σ H1) : tWhile c tb D σ H :=
  ⟨Pv, ⟨m, h0⟩, hs⟩
theorem same_new {H : Hp} {p : Addr} {o : HO} (h : H p = none) : Same H (upd H p o) := fun b u e => by
  rw [upd_ne (ne_of_none e h)]
  exact e
theorem paired_app {α β : Type} {F : α → β → Prop} : ∀ {a : List α} {b : List β} {a' : List α} {b' : List β}, Paired F a b → Paired F a' b' → Paired F (a ++ a') (b ++ b')
  | _, _, _, _, .nil, q => q
  | _, _, _, _, .cons r t, q => .cons r (paired_app t q)
theorem paired_len {α β : Type} {F : α → β → Prop} {a : List α} {b : List β} (p : Paired F a b) : a.length = b.length := Paired.length p
section
variable {X : Cx} {o e : Expr} {to te : TE} {apos cpos : Pos}
theorem qApp (ho : PE X o to) (he : PE X e te) (hbase : attributeBase o "append" X.env (eval o X.env) = eval o X.env := by rfl)
    (hfew : ((backTo cpos (starEach (e :: []) X.env)).all (fun x => !x.1) && (backToKw cpos (keywordEach [] X.env)).all (fun x => x.1.isSome)
      && decide ((e :: ([] : List Expr)).length + ([] : List Keyword).length + (if ([] : List Keyword).isEmpty then 0 else 1) < 30)) = true := by rfl)
    (hline : (apos.endLine == cpos.line) = true := by rfl) (hs : starEach (e :: []) X.env = (false, eval e X.env) :: starEach [] X.env := by rfl) (hplain : (backTo cpos (starEach [] X.env)).any (·.1) = false := by rfl) :
    PE X (.Call (.Attribute o "append" apos) [e] [] cpos) (tBM X.K "list" rAppend to (tCons te tNil)) :=
  pe_bm PySem.F.plainAttrs_list PySem.F.slot_list_append PySem.F.type_list_append mt_append ho (pa_cons he pa_nil hs) hbase hfew hline hs hplain
end
theorem while_q {c : TT} {tb : TS} {D : Ends} {σ : L2.St} {H : Hp} (Pv : Nat → L2.St → Hp → Prop) (m : Nat) (Post : L2.St → Hp → Prop) (h0 : Pv m σ H)
    (hs : ∀ X : L2.St → Hp → Prop, (∀ σ H, Post σ H → X σ H) → ∀ n σ H, Pv n σ H → c σ H fun b H1 => if b = true then ∃ N : L2.St → Hp → Prop, (∀ σ' H', N σ' H' → ∃ m', m' < n ∧ Pv m' σ' H') ∧ tb { D with nx := N, ct := N, bk := D.nx } σ H1 else X σ H1)
    (hp : ∀ σ H, Post σ H → D.nx σ H) : tWhile c tb D σ H :=
  ⟨Pv, ⟨m, h0⟩, hs D.nx hp⟩
abbrev sBeg : Stmt := top 50
abbrev sMix : Stmt := top 51
abbrev sDrw : Stmt := top 52
abbrev sPck : Stmt := top 53
/-! ### the state of the draws -/
theorem k12 : ¬ (Sum.inr ("great" : Str) : Key) = Sum.inr ("cells" : Str) := by decide +kernel
theorem k13 : ¬ (Sum.inr ("great" : Str) : Key) = Sum.inr ("rest" : Str) := by decide +kernel
theorem k14 : ¬ (Sum.inr ("great" : Str) : Key) = Sum.inr ("turn" : Str) := by decide +kernel
theorem k23 : ¬ (Sum.inr ("cells" : Str) : Key) = Sum.inr ("rest" : Str) := by decide +kernel
theorem k24 : ¬ (Sum.inr ("cells" : Str) : Key) = Sum.inr ("turn" : Str) := by decide +kernel
theorem k34 : ¬ (Sum.inr ("rest" : Str) : Key) = Sum.inr ("turn" : Str) := by decide +kernel
def StKV (g c : Addr) (r t : Int) : List (Key × V) := [(Sum.inr ("great" : Str), V.ref g), (Sum.inr ("cells" : Str), V.ref c), (Sum.inr ("rest" : Str), V.int r), (Sum.inr ("turn" : Str), V.int t)]
section
variable {g c d : Addr} {r t : Int} {H : Hp}
theorem v_great : valV (StKV g c r t) (Sum.inr ("great" : Str)) = some (.ref g) := valV_pos rfl
theorem v_cells : valV (StKV g c r t) (Sum.inr ("cells" : Str)) = some (.ref c) := (valV_neg k12).trans (valV_pos rfl)
theorem v_rest : valV (StKV g c r t) (Sum.inr ("rest" : Str)) = some (.int r) := (valV_neg k13).trans ((valV_neg k23).trans (valV_pos rfl))
theorem v_turn : valV (StKV g c r t) (Sum.inr ("turn" : Str)) = some (.int t) := (valV_neg k14).trans ((valV_neg k24).trans ((valV_neg k34).trans (valV_pos rfl)))
theorem p_rest (x : Int) : putK (StKV g c r t) (Sum.inr ("rest" : Str)) (.int x) = StKV g c x t := by
  unfold putK
  rw [valV_any, v_rest, if_pos (show (some (V.int r)).isSome = true from rfl)]
  unfold StKV
  simp only [List.map_cons, List.map_nil, if_neg k13, if_neg k23, if_pos, if_neg (Ne.symm k34 : ¬ (Sum.inr ("turn" : Str) : Key) = Sum.inr ("rest" : Str))]
theorem p_turn (x : Int) : putK (StKV g c r t) (Sum.inr ("turn" : Str)) (.int x) = StKV g c r x := by
  unfold putK
  rw [valV_any, v_turn, if_pos (show (some (V.int t)).isSome = true from rfl)]
  unfold StKV
  simp only [List.map_cons, List.map_nil, if_neg k14, if_neg k24, if_neg k34, if_pos]
theorem g_great (h : H d = some (.dK (StKV g c r t))) : DGet H d (.str ("great" : Str)) (some (.ref g)) := by
  have e := DGet.k (k := Sum.inr ("great" : Str)) h
  rw [v_great] at e
  exact e
theorem g_cells (h : H d = some (.dK (StKV g c r t))) : DGet H d (.str ("cells" : Str)) (some (.ref c)) := by
  have e := DGet.k (k := Sum.inr ("cells" : Str)) h
  rw [v_cells] at e
  exact e
theorem g_rest (h : H d = some (.dK (StKV g c r t))) : DGet H d (.str ("rest" : Str)) (some (.int r)) := by
  have e := DGet.k (k := Sum.inr ("rest" : Str)) h
  rw [v_rest] at e
  exact e
theorem g_turn (h : H d = some (.dK (StKV g c r t))) : DGet H d (.str ("turn" : Str)) (some (.int t)) := by
  have e := DGet.k (k := Sum.inr ("turn" : Str)) h
  rw [v_turn] at e
  exact e
theorem s_rest (h : H d = some (.dK (StKV g c r t))) (x : Int) : DPut H d (.str ("rest" : Str)) (.int x) (upd H d (.dK (StKV g c x t))) := by
  have e := DPut.k (k := Sum.inr ("rest" : Str)) (v := .int x) h (by rw [sizeLine_eq]; show 4 < _; omega)
  rw [p_rest] at e
  exact e
theorem s_turn (h : H d = some (.dK (StKV g c r t))) (x : Int) : DPut H d (.str ("turn" : Str)) (.int x) (upd H d (.dK (StKV g c r x))) := by
  have e := DPut.k (k := Sum.inr ("turn" : Str)) (v := .int x) h (by rw [sizeLine_eq]; show 4 < _; omega)
  rw [p_turn] at e
  exact e
end
/-- the state at d: great at g, cells at c; at most n turns were made -/
structure StX (H : Hp) (d g c : Addr) (n : Nat) (r t : Int) (gs cs : List Int) : Prop where
  dk : H d = some (.dK (StKV g c r t))
  gl : H g = some (.lst (gs.map V.int))
  cl : H c = some (.lst (cs.map V.int))
  gc : g ≠ c
  r0 : 0 ≤ r
  g0 : ∀ x ∈ gs, 0 ≤ x
  t0 : 0 ≤ t
  tn : t ≤ n
  gn : gs.length ≤ 63
  cn : cs.length ≤ 63
def StA (H : Hp) (d g c : Addr) (n : Nat) : Prop := ∃ r t gs cs, StX H d g c n r t gs cs
theorem StX.dg {H : Hp} {d g c : Addr} {n : Nat} {r t : Int} {gs cs : List Int} (S : StX H d g c n r t gs cs) : d ≠ g := ne_of S.dk S.gl (by intro z; cases z)
theorem StX.dc {H : Hp} {d g c : Addr} {n : Nat} {r t : Int} {gs cs : List Int} (S : StX H d g c n r t gs cs) : d ≠ c := ne_of S.dk S.cl (by intro z; cases z)
theorem StX.keep {H H' : Hp} {d g c : Addr} {n : Nat} {r t : Int} {gs cs : List Int} (S : StX H d g c n r t gs cs) (k : Same H H') : StX H' d g c n r t gs cs :=
  ⟨k _ _ S.dk, k _ _ S.gl, k _ _ S.cl, S.gc, S.r0, S.g0, S.t0, S.tn, S.gn, S.cn⟩
theorem StA.keep {H H' : Hp} {d g c : Addr} {n : Nat} (S : StA H d g c n) (k : Same H H') : StA H' d g c n := by
  obtain ⟨r, t, gs, cs, S⟩ := S
  exact ⟨r, t, gs, cs, S.keep k⟩
theorem StA.mono {H : Hp} {d g c : Addr} {n m : Nat} (S : StA H d g c n) (h : n ≤ m) : StA H d g c m := by
  obtain ⟨r, t, gs, cs, S⟩ := S
  exact ⟨r, t, gs, cs, S.dk, S.gl, S.cl, S.gc, S.r0, S.g0, S.t0, by have := S.tn; omega, S.gn, S.cn⟩
/-- all but the state's dict and great stay -/
def Kp (d g : Addr) (H H' : Hp) : Prop := ∀ b o, H b = some o → b ≠ d → b ≠ g → H' b = some o
theorem Kp.of {d g : Addr} {H H' : Hp} (s : Same H H') : Kp d g H H' := fun b o e _ _ => s b o e
theorem Kp.refl {d g : Addr} (H : Hp) : Kp d g H H := fun _ _ e _ _ => e
theorem Kp.trans {d g : Addr} {H H1 H2 : Hp} (a : Kp d g H H1) (b : Kp d g H1 H2) : Kp d g H H2 := fun c o e h1 h2 => b c o (a c o e h1 h2) h1 h2
theorem Kp.put {d g : Addr} {H : Hp} {o : HO} : Kp d g H (upd H d o) := fun b u e h1 _ => by
  rw [upd_ne h1]
  exact e
theorem Kp.putg {d g : Addr} {H : Hp} {o : HO} : Kp d g H (upd H g o) := fun b u e _ h2 => by
  rw [upd_ne h2]
  exact e
theorem StX.rest {H : Hp} {d g c : Addr} {n : Nat} {r t : Int} {gs cs : List Int} (S : StX H d g c n r t gs cs) {x : Int} (hx : 0 ≤ x) : StX (upd H d (.dK (StKV g c x t))) d g c n x t gs cs :=
  ⟨upd_same, by rw [upd_ne S.dg.symm]; exact S.gl, by rw [upd_ne S.dc.symm]; exact S.cl, S.gc, hx, S.g0, S.t0, S.tn, S.gn, S.cn⟩
theorem StX.turn {H : Hp} {d g c : Addr} {n : Nat} {r t : Int} {gs cs : List Int} (S : StX H d g c n r t gs cs) : StX (upd H d (.dK (StKV g c r (t + 1)))) d g c (n + 1) r (t + 1) gs cs :=
  ⟨upd_same, by rw [upd_ne S.dg.symm]; exact S.gl, by rw [upd_ne S.dc.symm]; exact S.cl, S.gc, S.r0, S.g0, by have := S.t0; omega, by have := S.tn; omega, S.gn, S.cn⟩
theorem dpInts {K : PySem.W.Frag} {H : Hp} : ∀ gs : List Int, DpAll K H (gs.map V.int) (gs.map PyData.int)
  | [] => .nil
  | x :: r => .cons (.int x) (dpInts r)
theorem layInts : ∀ gs : List Int, PyData.canLayAll0 (gs.map PyData.int) = true
  | [] => rfl
  | x :: r => by
    show (true && PyData.canLayAll0 (r.map PyData.int)) = true
    rw [layInts r]
    rfl
theorem depInts : ∀ gs : List Int, PyData.depthAll (gs.map PyData.int) = 0
  | [] => rfl
  | x :: r => by
    show max 0 (PyData.depthAll (r.map PyData.int)) = 0
    rw [depInts r]
    rfl
theorem shInts (gs : List Int) : SeqAt.shaped (.list (gs.map PyData.int)) = true := by
  unfold SeqAt.shaped
  show (PyData.canLayAll0 (gs.map PyData.int) && decide (PyData.depthAll (gs.map PyData.int) + 1 ≤ 64)) = true
  rw [layInts, depInts]
  rfl
def spMix : Sp := fun vs H Q _ => ∃ (d g c : Addr) (n : Nat), vs = [.ref d] ∧ StA H d g c n ∧ n ≤ 1000000000 ∧ ∀ (v : Int) (H' : Hp), 0 ≤ v → StA H' d g c (n + 1) → Kp d g H H' → Q (.int v) H'
def spDrw : Sp := fun vs H Q _ => ∃ (d g c : Addr) (n : Nat) (room : Int), vs = [.ref d, .int room] ∧ StA H d g c n ∧ n ≤ 1000000000 ∧ 0 < room ∧ room < 1073741824 ∧
  ∀ (v : Int) (H' : Hp), 0 ≤ v → v < room → StA H' d g c (n + 1) → Kp d g H H' → Q (.int v) H'
def spPck : Sp := fun vs H Q _ => ∃ (d g c a : Addr) (n : Nat) (xs : List V), vs = [.ref d, .ref a] ∧ StA H d g c n ∧ n ≤ 1000000000 ∧ H a = some (.lst xs) ∧ a ≠ g ∧ xs ≠ [] ∧ xs.length ≤ 1000000 ∧
  ∀ (v : V) (H' : Hp), v ∈ xs → StA H' d g c (n + 1) → Kp d g H H' → Q v H'
structure MgS (K : PySem.W.Frag) (mg : Str → Option Value) (fM fD : Addr) : Prop where
  int : mg "int" = none
  len : mg "len" = none
  mx : mg "_law_mixed" = some (.ref fM)
  kmx : PySem.W.keepIn K (.ref fM) = true
  dr : mg "_law_draw" = some (.ref fD)
  kdr : PySem.W.keepIn K (.ref fD) = true
section
variable {P : Program} {w : World} {K : PySem.W.Frag} {mg : Str → Option Value} {base : Heap}
theorem scMix : FnScope ["state", "turn", "found", "prime", "blend", "cell"] ["state"] (defScope sMix) := ⟨rfl, rfl, rfl, by decide +kernel, rfl, by decide +kernel, by decide +kernel⟩
theorem ok_mix {f fM fD : Addr} {fd : FuncData} (F : Fun K "_law_mixed" "_law_mixed" sMix f fd) (T : MgS K mg fM fD) : FnOk P w K mg base CX0 1 f fd ["state"] spMix := by
  refine F.ok scMix (fun vs H Q E h => ?_) (fun cdv A outer s H vs Q E hr h => ?_)
  · obtain ⟨d, g, c, n, rfl, _⟩ := h
    rfl
  · obtain ⟨d, g, c, n, rfl, ⟨r, t, gs, cs, S⟩, hn, k⟩ := h
    have hu := hu_of hr
    refine ⟨_, pss_cons (ps_par (i := 1) (j := 2) (by rfl) scMix.nd rfl rfl (by decide) rfl rfl (pa_cons (pe_op op_add (pe_dget hu (pv 0) pe_str (fun _ _ => rfl)) pe_int) (pa_cons pe_int pa_nil)) (by rfl))
      (pss_cons (ps_dput hu (pv 0) pe_str (pv 1) rfl)
      (pss_cons (ps_for PassesOwn.never rfl (pi_list (pe_lst (pa_cons pe_int (pa_cons pe_int (pa_cons pe_int (pa_cons pe_int pa_nil)))))) (pg_name (i := 3) scMix.nd rfl (Or.inl rfl))
        (pss_cons (ps_set (i := 4) scMix.nd rfl (Or.inl rfl) (pe_op op_add (pe_op op_mul pe_int (pv 1)) (pe_op op_fdivN (pv 3) pe_int)))
        (pss_cons (ps_for PassesOwn.never rfl (pi_list (pe_dget hu (pv 0) pe_str (fun _ _ => rfl))) (pg_name (i := 5) scMix.nd rfl (Or.inl rfl))
          (pss_one (ps_set (i := 4) scMix.nd rfl (Or.inl rfl) (pe_op op_mod (pe_callTy call_int1 (by rfl) T.int (by decide +kernel) (pa_cons (pe_op op_add (pe_op op_add (pe_op op_mul (pv 4) pe_int) (pv 5)) (pv 1)) pa_nil)) (pv 3)))))
        (pss_one (ps_set (i := 2) scMix.nd rfl (Or.inl rfl) (pe_op op_add (pe_op op_mul (pv 2) pe_int) (pe_op op_mod (pe_callTy call_int1 (by rfl) T.int (by decide +kernel) (pa_cons (pe_op op_pow (pv 4) pe_int) pa_nil)) (pv 3))))))))
      (pss_one (ps_ret (pv 2))))), ?_⟩
    refine ⟨_, rfl, d, _, rfl, g_turn S.dk, _, _, rfl, rfl, ⟨_, _, rfl, ?_⟩⟩
    refine ⟨_, rfl, _, rfl, d, _, rfl, s_turn S.dk _, ?_⟩
    have S1 := S.turn
    have t0 := S.t0
    have tn := S.tn
    refine ⟨(by show 4 ≤ sizeLine; decide), fun l hl => ?_⟩
    have S2 := S1.keep (same_new (o := .lst [V.int 2147483629, V.int 2147483647, V.int 2147483563, V.int 2147483587]) hl)
    have kp : Kp d g H (upd (upd H d (.dK (StKV g c r (t + 1)))) l (.lst [V.int 2147483629, V.int 2147483647, V.int 2147483563, V.int 2147483587])) := Kp.put.trans (Kp.of (same_new hl))
    generalize hH1 : upd (upd H d (.dK (StKV g c r (t + 1)))) l (.lst [V.int 2147483629, V.int 2147483647, V.int 2147483563, V.int 2147483587]) = H1 at S2 kp
    have hl1 : H1 l = some (.lst [V.int 2147483629, V.int 2147483647, V.int 2147483563, V.int 2147483587]) := by rw [← hH1, upd_same]
    refine ⟨l, rfl, ⟨_, SqL.of (by first | exact upd_same | exact hl1)⟩, for_list (K := K) (a := l) (xs := [V.int 2147483629, V.int 2147483647, V.int 2147483563, V.int 2147483587])
      (fun i σ H' => ∃ (fd : Int) (pv bv cv : Option V), σ = [some (.ref d), some (.int (t + 1)), some (.int fd), pv, bv, cv] ∧ 0 ≤ fd ∧ H' = H1) ⟨0, none, none, none, rfl, Int.le_refl _, by first | rfl | exact hH1⟩ (fun i σ H' _ ⟨_, _, _, _, _, _, e⟩ => by rw [e]; exact SqL.of hl1) ?_ ?_⟩
    · rintro i x σ H' hi ⟨fd, pv, bv, cv, rfl, hfd, rfl⟩
      have hm := List.mem_of_getElem? hi
      obtain ⟨pr, rfl, hp0, hp1⟩ : ∃ pr : Int, x = .int pr ∧ 0 < pr ∧ pr < 2147483648 := by
        simp only [List.mem_cons, List.not_mem_nil, or_false] at hm
        rcases hm with rfl | rfl | rfl | rfl
        · exact ⟨_, rfl, by decide, by decide⟩
        · exact ⟨_, rfl, by decide, by decide⟩
        · exact ⟨_, rfl, by decide, by decide⟩
        · exact ⟨_, rfl, by decide, by decide⟩
      have hq : pr.fdiv 41 = pr / 41 := Int.fdiv_eq_ediv_of_nonneg _ (by decide)
      refine ⟨_, rfl, _, _, rfl, rfl, .inl ⟨by decide, by decide⟩, _, rfl, _, _, rfl, rfl, ⟨by decide, by decide⟩, _, _, rfl, rfl, ?_⟩
      refine ⟨_, rfl, d, _, rfl, g_cells S2.dk, c, rfl, ⟨_, SqL.of S2.cl⟩, for_list (K := K) (a := c) (xs := cs.map V.int)
        (fun i σ H'' => ∃ (bl : Int) (cv : Option V), σ = [some (.ref d), some (.int (t + 1)), some (.int fd), some (.int pr), some (.int bl), cv] ∧ -9000000000000000000 < bl ∧ bl < 9000000000000000000 ∧ H'' = H') ⟨_, cv, rfl, by omega, by omega, rfl⟩ (fun i σ H'' _ ⟨_, _, _, _, _, e⟩ => by rw [e]; exact SqL.of S2.cl) ?_ ?_⟩
      · rintro j y σ H'' hj ⟨bl, cv2, rfl, hb1, hb2, rfl⟩
        rw [List.getElem?_map] at hj
        obtain ⟨z, _, rfl⟩ := Option.map_eq_some_iff.mp hj
        refine ⟨_, rfl, _, _, rfl, rfl, .inr ⟨by decide, by decide⟩, _, rfl, _, _, rfl, rfl, _, rfl, _, _, rfl, rfl, .inl ⟨_, rfl, _, rfl, _, _, rfl, rfl, hp0, ?_⟩⟩
        refine ⟨_, _, rfl, ?_, ?_, rfl⟩
        · have := Int.emod_nonneg (bl * 48271 + z + (t + 1)) (Int.ne_of_gt hp0)
          omega
        · have := Int.emod_lt_of_pos (bl * 48271 + z + (t + 1)) hp0
          omega
      · rintro σ H'' ⟨bl, cv2, rfl, hb1, hb2, rfl⟩
        refine ⟨_, rfl, _, _, rfl, rfl, .inr ⟨by decide, by decide⟩, _, rfl, _, _, rfl, rfl, ⟨by decide, by decide, by omega⟩, .inl ⟨_, rfl, _, rfl, _, _, rfl, rfl, hp0, _, _, rfl, rfl, ?_⟩⟩
        refine ⟨_, _, _, _, rfl, ?_, rfl⟩
        have := Int.emod_nonneg (bl ^ (5 : Int).toNat) (Int.ne_of_gt hp0)
        omega
    · rintro σ H' ⟨fd, pv, bv, cv, rfl, hfd, rfl⟩
      refine ⟨_, rfl, k fd H' hfd ⟨_, _, _, _, S2⟩ kp⟩
end
/-- a statement, a word of one's own, the rest -/
def tMid (t u : TS) : TS := fun D σ H => ∃ M : L2.St → Hp → Prop, t { D with nx := M } σ H ∧ ∀ σ1 H1, M σ1 H1 → u D σ1 H1
section
variable {X : Cx} {o e : Expr} {to te : TE} {apos cpos : Pos}
theorem pss_mid {st : Stmt} {rest : List Stmt} {t u : TS} (h1 : PS X st t) (h2 : PSs X rest u) : PSs X (st :: rest) (tMid t u) := by
  constructor
  intro pins s σ H D I h
  obtain ⟨M, ha, hb⟩ := h
  refine wpAny_execs_cons (thn (h1.run pins s σ H { D with nx := M } I ha) ?_)
  intro f s1 q
  match f, q with
  | .next, ⟨σ1, H1, I1, q⟩ => exact h2.run pins s1 σ1 H1 D I1 (hb σ1 H1 q)
  | .ret v, q => exact q
  | .brk, q => exact q
  | .cont, q => exact q
theorem qPopAt (ho : PE X o to) (he : PE X e te) (hbase : attributeBase o "pop" X.env (eval o X.env) = eval o X.env := by rfl)
    (hfew : ((backTo cpos (starEach (e :: []) X.env)).all (fun x => !x.1) && (backToKw cpos (keywordEach [] X.env)).all (fun x => x.1.isSome)
      && decide ((e :: ([] : List Expr)).length + ([] : List Keyword).length + (if ([] : List Keyword).isEmpty then 0 else 1) < 30)) = true := by rfl)
    (hline : (apos.endLine == cpos.line) = true := by rfl) (hs : starEach (e :: []) X.env = (false, eval e X.env) :: starEach [] X.env := by rfl) (hplain : (backTo cpos (starEach [] X.env)).any (·.1) = false := by rfl) :
    PE X (.Call (.Attribute o "pop" apos) [e] [] cpos) (tBM X.K "list" rPopAt to (tCons te tNil)) :=
  pe_bm PySem.F.plainAttrs_list PySem.F.slot_list_pop PySem.F.type_list_pop mt_popAt ho (pa_cons he pa_nil hs) hbase hfew hline hs hplain
end
theorem StX.pop {H : Hp} {d g c : Addr} {n : Nat} {r t x : Int} {gs cs : List Int} (S : StX H d g c n r t (x :: gs) cs) : 0 ≤ x ∧ StX (upd (upd H g (.lst (gs.map V.int))) d (.dK (StKV g c x t))) d g c n x t gs cs := by
  have hx := S.g0 x (List.mem_cons_self ..)
  refine ⟨hx, upd_same, by rw [upd_ne S.dg.symm, upd_same], by rw [upd_ne S.dc.symm, upd_ne S.gc.symm]; exact S.cl, S.gc, hx, fun y hy => S.g0 y (List.mem_cons_of_mem _ hy), S.t0, S.tn, by have := S.gn; simp only [List.length_cons] at this; omega, S.cn⟩
section
variable {P : Program} {w : World} {K : PySem.W.Frag} {mg : Str → Option Value} {base : Heap}
theorem scDrw : FnScope ["state", "room", "found"] ["state", "room"] (defScope sDrw) := ⟨rfl, rfl, rfl, by decide +kernel, rfl, by decide +kernel, by decide +kernel⟩
theorem ok_drw {f fM fD : Addr} {fd fdM : FuncData} (F : Fun K "_law_draw" "_law_draw" sDrw f fd) (T : MgS K mg fM fD) (FM : Fun K "_law_mixed" "_law_mixed" sMix fM fdM) (bM : L2.Binds K fdM ["state"] []) : FnOk P w K mg base CX0 2 f fd ["state", "room"] spDrw := by
  have GM : FnOk P w K mg base CX0 1 fM fdM ["state"] spMix := ok_mix FM T
  refine F.ok scDrw (fun vs H Q E h => ?_) (fun cdv A outer s H vs Q E hr h => ?_)
  · obtain ⟨d, g, c, n, room, rfl, _⟩ := h
    rfl
  · obtain ⟨d, g, c, n, room, rfl, ⟨r, t, gs, cs, S⟩, hn, hr0, hr1, k⟩ := h
    have hu := hu_of hr
    refine ⟨_, pss_mid (ps_if (pt_cmpR op_eq (pe_dget hu (pv 0) pe_str (fun _ _ => rfl)) pe_int (nomark _))
        (pss_one (ps_dput hu (pv 0) pe_str (pe_ifExp (pt_cmpR (op_neD hr.units) (pe_dget hu (pv 0) pe_str (fun _ _ => rfl)) (pe_lst pa_nil) (nomark _))
          (qPopAt (pe_dget hu (pv 0) pe_str (fun _ _ => rfl)) pe_int) (pe_call GM hr (by rfl) T.mx T.kmx bM .nil pass0 (pa_cons (pv 0) pa_nil))) rfl)) pss_nil)
      (pss_cons (ps_set (i := 2) scDrw.nd rfl (Or.inl rfl) (pe_op op_mod (pe_callTy call_int1 (by rfl) T.int (by decide +kernel) (pa_cons (pe_dget hu (pv 0) pe_str (fun _ _ => rfl)) pa_nil)) (pv 1)))
      (pss_cons (ps_dput hu (pv 0) pe_str (pe_op op_fdivN (pe_dget hu (pv 0) pe_str (fun _ _ => rfl)) (pv 1)) rfl)
      (pss_one (ps_ret (pv 2))))), ?_⟩
    refine ⟨fun σ1 H1 => σ1 = [some (.ref d), some (.int room), none] ∧ StA H1 d g c (n + 1) ∧ Kp d g H H1, ?_, ?_⟩
    · refine ⟨_, rfl, d, _, rfl, g_rest S.dk, rfl, _, rfl, ?_⟩
      by_cases h0 : r = 0
      · refine ifT (decide_eq_true (by rw [h0])) ?_
        refine ⟨_, rfl, d, _, rfl, g_great S.dk, Nat.zero_le _, fun l hl => ?_⟩
        have S1 := S.keep (same_new (o := .lst []) hl)
        refine ⟨_, .list [], .lst (SqL.of S1.gl) (dpInts gs), .lst (SqL.of upd_same) .nil, shInts gs, by decide, _, rfl, ?_⟩
        cases gs with
        | nil =>
          refine ifF rfl ?_
          refine ⟨_, rfl, d, g, c, n, rfl, ⟨r, t, [], cs, S1⟩, hn, fun v H' hv S2 kp => ?_⟩
          obtain ⟨r2, t2, gs2, cs2, S2⟩ := S2
          refine ⟨_, rfl, d, _, rfl, s_rest S2.dk v, rfl, ⟨v, t2, gs2, cs2, S2.rest hv⟩, (Kp.of (same_new hl)).trans (kp.trans Kp.put)⟩
        | cons x gs =>
          refine ifT rfl ?_
          obtain ⟨hx, S2⟩ := S1.pop
          refine ⟨_, rfl, d, _, rfl, g_great S1.dk, .inl ⟨rfl, _, SqL.of S1.gl⟩, g, _, 0, 0, .int x, rfl, rfl, S1.gl, (by decide), (by decide), (by first | rfl | (unfold seqIndex?; simp)), rfl, ?_⟩
          refine ⟨_, rfl, d, _, rfl, s_rest (by rw [upd_ne S1.dg]; exact S1.dk) x, rfl, ?_, (Kp.of (same_new hl)).trans (Kp.putg.trans Kp.put)⟩
          exact StA.mono ⟨x, t, gs, cs, S2⟩ (Nat.le_succ _)
      · refine ifF (decide_eq_false (fun h => h0 (by injection h))) ?_
        exact ⟨rfl, StA.mono ⟨r, t, gs, cs, S⟩ (Nat.le_succ _), Kp.refl _⟩
    · rintro σ1 H1 ⟨rfl, ⟨r, t, gs, cs, S⟩, kp⟩
      refine ⟨_, rfl, d, _, rfl, g_rest S.dk, .inl ⟨_, rfl, _, rfl, _, _, rfl, rfl, hr0, ?_⟩⟩
      refine ⟨_, rfl, d, _, rfl, g_rest S.dk, _, rfl, _, _, rfl, rfl, ⟨by omega, by omega⟩, _, rfl, d, _, rfl, s_rest S.dk _, ?_⟩
      have hq : 0 ≤ r.fdiv room := by
        rw [Int.fdiv_eq_ediv_of_nonneg _ (by omega)]
        exact Int.ediv_nonneg S.r0 (by omega)
      exact ⟨_, rfl, k _ _ (Int.emod_nonneg _ (by omega)) (Int.emod_lt_of_pos _ hr0) ⟨_, _, _, _, S.rest hq⟩ (kp.trans Kp.put)⟩
end
theorem merge_st (g c : Addr) : mergeK [] (StKV g c 0 0) = StKV g c 0 0 := by
  have e1 : putK [] (Sum.inr ("great" : Str) : Key) (V.ref g) = [(Sum.inr ("great" : Str), V.ref g)] := by
    rw [putK_new _ valV_nil]
    rfl
  have e2 : putK [((Sum.inr ("great" : Str) : Key), V.ref g)] (Sum.inr ("cells" : Str)) (V.ref c) = [(Sum.inr ("great" : Str), V.ref g), (Sum.inr ("cells" : Str), V.ref c)] := by
    rw [putK_new _ ((valV_neg k12).trans valV_nil)]
    rfl
  have e3 : putK [((Sum.inr ("great" : Str) : Key), V.ref g), (Sum.inr ("cells" : Str), V.ref c)] (Sum.inr ("rest" : Str)) (V.int 0) = [(Sum.inr ("great" : Str), V.ref g), (Sum.inr ("cells" : Str), V.ref c), (Sum.inr ("rest" : Str), V.int 0)] := by
    rw [putK_new _ ((valV_neg k13).trans ((valV_neg k23).trans valV_nil))]
    rfl
  have e4 : putK [((Sum.inr ("great" : Str) : Key), V.ref g), (Sum.inr ("cells" : Str), V.ref c), (Sum.inr ("rest" : Str), V.int 0)] (Sum.inr ("turn" : Str)) (V.int 0) = StKV g c 0 0 := by
    rw [putK_new _ ((valV_neg k14).trans ((valV_neg k24).trans ((valV_neg k34).trans valV_nil)))]
    rfl
  show putK (putK (putK (putK [] (Sum.inr ("great" : Str) : Key) (V.ref g)) (Sum.inr ("cells" : Str)) (V.ref c)) (Sum.inr ("rest" : Str)) (V.int 0)) (Sum.inr ("turn" : Str)) (V.int 0) = _
  rw [e1, e2, e3, e4]
def spBeg (K : PySem.W.Frag) : Sp := fun vs H Q _ => ∃ (a : Addr) (ns : List Int), vs = [.ref a] ∧ SqL K H a (ns.map V.int) ∧ ns.length ≤ 63 ∧
  ∀ (d g c : Addr) (H' : Hp), StA H' d g c 0 → Same H H' → H d = none → H g = none → Q (.ref d) H'
section
variable {P : Program} {w : World} {K : PySem.W.Frag} {mg : Str → Option Value} {base : Heap}
theorem scPck : FnScope ["state", "some"] ["state", "some"] (defScope sPck) := ⟨rfl, rfl, rfl, by decide +kernel, rfl, by decide +kernel, by decide +kernel⟩
theorem ok_pck {f fM fD : Addr} {fd fdM fdD : FuncData} (F : Fun K "_law_pick" "_law_pick" sPck f fd) (T : MgS K mg fM fD) (FM : Fun K "_law_mixed" "_law_mixed" sMix fM fdM) (bM : L2.Binds K fdM ["state"] [])
    (FD : Fun K "_law_draw" "_law_draw" sDrw fD fdD) (bD : L2.Binds K fdD ["state", "room"] []) : FnOk P w K mg base CX0 3 f fd ["state", "some"] spPck := by
  have GD : FnOk P w K mg base CX0 2 fD fdD ["state", "room"] spDrw := ok_drw FD T FM bM
  refine F.ok scPck (fun vs H Q E h => ?_) (fun cdv A outer s H vs Q E hr h => ?_)
  · obtain ⟨d, g, c, a, n, xs, rfl, _⟩ := h
    rfl
  · obtain ⟨d, g, c, a, n, xs, rfl, S, hn, ha, hag, hne, hlen, k⟩ := h
    refine ⟨_, pss_one (ps_ret (pe_ix ix_list (pv 1) (pe_call GD hr (by rfl) T.dr T.kdr bD .nil pass0 (pa_cons (pv 0) (pa_cons (pe_callB call_len_seq (by rfl) T.len PySem.boot_len (pa_cons (pv 1) pa_nil)) pa_nil))) (fun _ _ => rfl))), ?_⟩
    have hpos : 0 < xs.length := List.length_pos_iff.mpr hne
    have had : a ≠ d := by
      obtain ⟨r, t, gs, cs, S⟩ := S
      exact ne_of ha S.dk (by intro z; cases z)
    refine ⟨_, rfl, _, rfl, _, rfl, a, _, rfl, .inl (SqL.of ha), d, g, c, n, (xs.length : Int), rfl, S, hn, by omega, by omega, fun v H' h0 h1 S2 kp => ?_⟩
    have hi : v.toNat < xs.length := by omega
    exact ⟨a, xs, v, xs[v.toNat], rfl, rfl, SqL.of (kp _ _ ha had hag), at_of (j := v.toNat) (by omega) (List.getElem?_eq_getElem hi), k _ _ (List.getElem_mem hi) S2 kp⟩
theorem scBeg : FnScope ["script", "great", "cell"] ["script"] (defScope sBeg) := ⟨rfl, rfl, rfl, by decide +kernel, rfl, by decide +kernel, by decide +kernel⟩
theorem ok_beg {f : Addr} {fd : FuncData} (F : Fun K "_law_begun" "_law_begun" sBeg f fd) (ma : mg "abs" = none) : FnOk P w K mg base CX0 1 f fd ["script"] (spBeg K) := by
  refine F.ok scBeg (fun vs H Q E h => ?_) (fun cdv A outer s H vs Q E hr h => ?_)
  · obtain ⟨a, ns, rfl, _⟩ := h
    rfl
  · obtain ⟨a, ns, rfl, hS, hlen, k⟩ := h
    refine ⟨_, pss_cons (ps_setLc (i := 1) (own := [("cell", 2)]) (g := gName 2) (by rfl) scBeg.nd rfl rfl (sw_true rfl rfl rfl (by decide +kernel)) (pi_list (pv 0)) (blkOk_by (own := [("cell", 2)]) (N := ["script", "great", "cell"]) (sc := defScope sBeg) (by decide +kernel)) (fun _ _ _ _ _ => pg_name (i := 2) scBeg.nd rfl (Or.inl rfl))
        (fun _ _ _ _ _ => pts_one (pt_cmpR op_ge (pe_callB call_abs (by rfl) ma (by decide +kernel) (pa_cons (pv 2) pa_nil)) (pe_op op_pow pe_int pe_int) (nomark _)))
        (fun _ _ _ _ _ => pe_op op_sub (pe_callB call_abs (by rfl) ma (by decide +kernel) (pa_cons (pv 2) pa_nil)) (pe_op op_pow pe_int pe_int)))
      (pss_one (ps_ret (pe_disp (pps_cons pe_str (pv 1) (pps_cons pe_str (pe_lc (own := [("cell", 2)]) (g := gName 2) (tt := tYes) (by rfl) scBeg.nd (pi_list (pv 0)) (blkOk_by (own := [("cell", 2)]) (N := ["script", "great", "cell"]) (sc := defScope sBeg) (by decide +kernel)) (fun _ _ _ _ _ => pg_name (i := 2) scBeg.nd rfl (Or.inl rfl)) (fun _ _ _ _ _ => pts_nil)
        (fun _ _ _ _ _ => pe_callB call_abs (by rfl) ma (by decide +kernel) (pa_cons (pv 2) pa_nil))) (pps_cons pe_str pe_int (pps_cons pe_str pe_int pps_nil)))) (by rfl) (by rfl) (fun z => by cases z) (by decide)))), ?_⟩
    refine ⟨_, rfl, a, rfl, ⟨_, hS⟩, fun g hg => lc_list (K := K) (a := a) (xs := ns.map V.int)
      (fun i H' => ∃ gs : List Int, H' g = some (.lst (gs.map V.int)) ∧ (∀ x ∈ gs, 0 ≤ x) ∧ gs.length ≤ i ∧ Same H H') ⟨[], upd_same, (fun x hx => by cases hx), Nat.le_refl _, same_new hg⟩ (fun i H' _ ⟨_, _, _, _, s1⟩ => s1.seq hS) ?_ ?_⟩
    · rintro i x H' hi ⟨gs, h1, h2, h3, s1⟩
      have hil : i < (ns.map V.int).length := (List.getElem?_eq_some_iff.mp hi).1
      rw [List.length_map] at hil
      rw [List.getElem?_map] at hi
      obtain ⟨z, _, rfl⟩ := Option.map_eq_some_iff.mp hi
      refine ⟨rfl, ?_⟩
      refine ⟨_, rfl, z, rfl, _, _, rfl, rfl, ⟨by decide, by decide, by decide⟩, _, _, rfl, rfl, _, rfl, ?_⟩
      by_cases hz : (10 : Int) ^ (18 : Int).toNat ≤ (if z < 0 then -z else z)
      · refine ifT (decide_eq_true hz) ?_
        refine ⟨_, rfl, z, rfl, _, _, rfl, rfl, ⟨by decide, by decide, by decide⟩, _, _, rfl, rfl, ?_⟩
        refine ⟨gs.map V.int, h1, by rw [List.length_map, sizeLine_eq]; omega, gs ++ [(if z < 0 then -z else z) - (10 : Int) ^ (18 : Int).toNat], ?_, ?_, ?_, ?_⟩
        · rw [upd_same, List.map_append]
          rfl
        · intro x hx
          rcases List.mem_append.mp hx with hx | hx
          · exact h2 x hx
          · rw [List.mem_singleton.mp hx]
            omega
        · rw [List.length_append]
          show gs.length + 1 ≤ i + 1
          omega
        · intro b o e
          rw [upd_ne (ne_of_none e hg)]
          exact s1 _ _ e
      · refine ifF (decide_eq_false hz) ?_
        exact ⟨gs, h1, h2, by omega, s1⟩
    · rw [List.length_map]
      rintro H1 ⟨gs, h1, h2, h3, s1⟩
      refine fun p hp => ?_
      have hgp : g ≠ p := ne_of_none h1 hp
      refine ⟨_, rfl, _, rfl, a, rfl, ⟨_, (s1.trans (same_new hp)).seq hS⟩, fun c hc => lc_list (K := K) (a := a) (xs := ns.map V.int)
        (fun i H' => ∃ cs : List Int, H' c = some (.lst (cs.map V.int)) ∧ cs.length ≤ i ∧ Same (upd H1 p (.dK [])) H') ⟨[], upd_same, Nat.le_refl _, same_new hc⟩ (fun i H' _ ⟨_, _, _, s2⟩ => ((s1.trans (same_new hp)).trans s2).seq hS) ?_ ?_⟩
      · rintro i x H' hi ⟨cs, h4, h5, s2⟩
        have hil : i < (ns.map V.int).length := (List.getElem?_eq_some_iff.mp hi).1
        rw [List.length_map] at hil
        rw [List.getElem?_map] at hi
        obtain ⟨z, _, rfl⟩ := Option.map_eq_some_iff.mp hi
        refine ⟨rfl, ?_⟩
        refine ⟨_, rfl, z, rfl, cs.map V.int, h4, by rw [List.length_map, sizeLine_eq]; omega, cs ++ [if z < 0 then -z else z], ?_, ?_, ?_⟩
        · rw [upd_same, List.map_append]
          rfl
        · rw [List.length_append]
          show cs.length + 1 ≤ i + 1
          omega
        · intro b o e
          rw [upd_ne (ne_of_none e hc)]
          exact s2 _ _ e
      · rw [List.length_map]
        rintro H2 ⟨cs, h4, h5, s2⟩
        have hpc : p ≠ c := ne_of_none upd_same hc
        have hgc : g ≠ c := ne_of_none (by rw [upd_ne hgp]; exact h1) hc
        refine ⟨s2 _ _ upd_same, StKV g c 0 0, rfl, (by show 4 ≤ 15; decide), ?_⟩
        rw [merge_st]
        refine k p g c _ ⟨0, 0, gs, cs, upd_same, ?_, ?_, hgc, Int.le_refl _, h2, Int.le_refl _, Int.le_refl _, by omega, by omega⟩ ?_ (s1.free hp) hg
        · rw [upd_ne hgp]
          exact s2 _ _ (by rw [upd_ne hgp]; exact h1)
        · rw [upd_ne hpc.symm]
          exact h4
        · intro b o e
          have hbp : b ≠ p := ne_of_none (s1 _ _ e) hp
          rw [upd_ne hbp]
          exact s2 _ _ (by rw [upd_ne hbp]; exact s1 _ _ e)
end
abbrev sWds : Stmt := top 56
abbrev sNam : Stmt := top 57
def wd1 : List Str := ["again", "and", "ask", "body", "break", "call", "else", "fail", "function", "give", "if", "local", "no", "not"]
def wd2 : List Str := ["number", "or", "over", "place", "record", "rest", "row", "show", "size", "store", "truth", "unit"]
def wd3 : List Str := ["use", "while", "worth", "yes"]
def wds : List Str := wd1 ++ wd2 ++ wd3
/-- a short text of ASCII signs -/
def okS (m : Nat) (x : Str) : Bool := x.cps.all (fun c => decide (c < 128)) && (decide (1 ≤ x.length) && decide (x.length ≤ m))
theorem okS_of {m : Nat} {x : Str} (h1 : ∀ c ∈ tl x, c < 128) (h2 : 1 ≤ x.length) (h3 : x.length ≤ m) : okS m x = true := by
  unfold okS
  rw [decide_eq_true h2, decide_eq_true h3, Bool.and_true, Bool.and_true, Array.all_eq_true]
  intro i hi
  exact decide_eq_true (h1 _ (by rw [Array.mem_toList_iff]; exact Array.getElem_mem hi))
theorem okS_to {m : Nat} {x : Str} (h : okS m x = true) : (∀ c ∈ tl x, c < 128) ∧ 1 ≤ x.length ∧ x.length ≤ m := by
  unfold okS at h
  simp only [Bool.and_eq_true, decide_eq_true_eq] at h
  refine ⟨fun c hc => ?_, h.2.1, h.2.2⟩
  have h1 := Array.all_eq_true.mp h.1
  obtain ⟨i, hi, e⟩ := Array.mem_iff_getElem.mp (Array.mem_toList_iff.mp hc)
  have := of_decide_eq_true (h1 i hi)
  rw [e] at this
  exact this
theorem okS_app {m n k : Nat} {x y : Str} (h : okS m x = true) (h' : okS n y = true) (hk : m + n ≤ k) : okS k (x ++ y) = true := by
  obtain ⟨a1, a2, a3⟩ := okS_to h
  obtain ⟨b1, b2, b3⟩ := okS_to h'
  have e : (x ++ y).length = x.length + y.length := by rw [TL.len_tl, TL.tl_append, List.length_append, TL.len_tl x, TL.len_tl y]
  refine okS_of (fun c hc => ?_) (by omega) (by omega)
  rw [TL.tl_append] at hc
  rcases List.mem_append.mp hc with hc | hc
  · exact a1 c hc
  · exact b1 c hc
theorem okS_mono {m n : Nat} {x : Str} (h : okS m x = true) (hk : m ≤ n) : okS n x = true := by
  obtain ⟨a1, a2, a3⟩ := okS_to h
  exact okS_of a1 a2 (by omega)
theorem pick_str {m : Nat} {ws : List Str} (h : ws.all (okS m) = true) {v : V} (hv : v ∈ ws.map V.str) : ∃ x : Str, v = .str x ∧ okS m x = true := by
  obtain ⟨x, hx, rfl⟩ := List.mem_map.mp hv
  exact ⟨x, rfl, List.all_eq_true.mp h x hx⟩
def spWds : Sp := fun vs H Q _ => vs = [] ∧ ∀ (p : Addr) (H' : Hp), Same H H' → H p = none → H' p = some (.lst (wds.map V.str)) → Q (.ref p) H'
def L26 : Str := "abcdefghijklmnopqrstuvwxyz"
def D10 : Str := "0123456789"
def isLet (c : Nat) : Bool := decide (c ∈ L26.cps.toList)
def isSgn (c : Nat) : Bool := isLet c || decide (c ∈ D10.cps.toList)
def nameS (s : Str) : Bool := (decide (1 ≤ s.length) && decide (s.length ≤ 8)) && (isLet ((tl s).getD 0 0) && ((tl s).all isSgn && !decide (s ∈ wds)))
/-- the law's names; ts: those that are taken -/
def spNam : Sp := fun vs H Q _ => ∃ (d g c a : Addr) (n : Nat) (ts : List Str), vs = [.ref d, .ref a] ∧ StA H d g c n ∧ n ≤ 900000000 ∧ H a = some (.lst (ts.map V.str)) ∧ ts.length ≤ 60 ∧ a ≠ g ∧
  ∀ (x : Str) (H' : Hp), okS 10 x = true → StA H' d g c (n + 12) → Kp d g H H' → nameS x = true → x ∉ ts → Q (.str x) H'
structure MgN (K : PySem.W.Frag) (mg : Str → Option Value) (fM fD fP fW : Addr) : Prop extends MgS K mg fM fD where
  pk : mg "_law_pick" = some (.ref fP)
  kpk : PySem.W.keepIn K (.ref fP) = true
  wd : mg "_law_tx_words" = some (.ref fW)
  kwd : PySem.W.keepIn K (.ref fW) = true
  rng : mg "range" = none
  str : mg "str" = none
section
variable {X : Cx}
theorem op_mul_str : OpR X (binaryOp .Mult) (fun x y H Q => ∃ (i : Str) (n : Int), x = .str i ∧ y = .int n ∧ 1 ≤ n ∧ n ≤ 1000 ∧ i.length ≤ 1000 ∧ Q (.str (Txt.mul i n)) H) := by
  intro pins s σ H x y v u Q I rx ry h
  obtain ⟨i, n, rfl, rfl, h0, h1, h2, q⟩ := h
  obtain ⟨t, rfl⟩ := rx
  obtain ⟨t', rfl⟩ := ry
  refine SB.mul ⟨?_, ?_, ?_⟩ fun t' k => ⟨.str _, H, I.tok _, ⟨_, rfl⟩, q⟩
  · rw [decide_eq_false (by omega), decide_eq_false (by omega)]
    rfl
  · intro _ _
    have : (1000 : Int) ≤ (2 ^ 63 - 1) / n := by
      refine Int.le_ediv_of_mul_le (by omega) ?_
      omega
    omega
  · intro _ _
    have : i.length * n.toNat ≤ 1000 * 1000 := Nat.mul_le_mul h2 (by omega)
    exact decide_eq_false (show ¬ (i.length * n.toNat > sizeLine) by rw [sizeLine_eq]; omega)
end
section
variable {P : Program} {w : World} {K : PySem.W.Frag} {mg : Str → Option Value} {base : Heap}
theorem scWds : FnScope ["found"] [] (defScope sWds) := ⟨rfl, rfl, rfl, by decide +kernel, rfl, by decide +kernel, by decide +kernel⟩
theorem ok_wds {f : Addr} {fd : FuncData} (F : Fun K "_law_tx_words" "_law_tx_words" sWds f fd) : FnOk P w K mg base CX0 1 f fd [] spWds := by
  refine F.ok scWds (fun vs H Q E h => ?_) (fun cdv A outer s H vs Q E hr h => ?_)
  · obtain ⟨rfl, _⟩ := h
    rfl
  · obtain ⟨rfl, k⟩ := h
    have s1 {X : Cx} := @pe_str X
    refine ⟨_, pss_cons (ps_set (i := 0) scWds.nd rfl (Or.inl rfl) (pe_lst (pa_cons pe_str (pa_cons pe_str (pa_cons pe_str (pa_cons pe_str (pa_cons pe_str (pa_cons pe_str (pa_cons pe_str (pa_cons pe_str (pa_cons pe_str (pa_cons pe_str (pa_cons pe_str (pa_cons pe_str (pa_cons pe_str (pa_cons pe_str pa_nil))))))))))))))))
      (pss_cons (ps_set (i := 0) scWds.nd rfl (Or.inl rfl) (pe_op op_cat (pv 0) (pe_lst (pa_cons pe_str (pa_cons pe_str (pa_cons pe_str (pa_cons pe_str (pa_cons pe_str (pa_cons pe_str (pa_cons pe_str (pa_cons pe_str (pa_cons pe_str (pa_cons pe_str (pa_cons pe_str (pa_cons pe_str pa_nil)))))))))))))))
      (pss_one (ps_ret (pe_op op_cat (pv 0) (pe_lst (pa_cons pe_str (pa_cons pe_str (pa_cons pe_str (pa_cons pe_str pa_nil))))))))), ?_⟩
    refine ⟨(by show 14 ≤ sizeLine; decide), fun p hp => ?_⟩
    refine ⟨_, rfl, (by show 12 ≤ sizeLine; decide), fun q hq => ⟨p, q, wd1.map V.str, wd2.map V.str, rfl, rfl, ?_, upd_same, (by show 14 + 12 ≤ sizeLine; decide), fun r hr => ?_⟩⟩
    · rw [upd_ne (ne_of_none upd_same hq)]
      exact upd_same
    · refine ⟨_, rfl, (by show 4 ≤ sizeLine; decide), fun q2 hq2 => ⟨r, q2, (wd1 ++ wd2).map V.str, wd3.map V.str, rfl, rfl, ?_, upd_same, (by show 26 + 4 ≤ sizeLine; decide), fun r2 hr2 => ?_⟩⟩
      · rw [upd_ne (ne_of_none upd_same hq2), List.map_append]
        exact upd_same
      · refine k r2 _ (Same.trans (Same.trans (Same.trans (same_new hp) (same_new hq)) (Same.trans (same_new hr) (same_new hq2))) (same_new hr2)) (Same.free (Same.trans (Same.trans (same_new hp) (same_new hq)) (Same.trans (same_new hr) (same_new hq2))) hr2) ?_
        · rw [upd_same]
          unfold wds
          rw [List.map_append, List.map_append, List.map_append]
end
end K3

set_option Elab.async false
set_option linter.all false
set_option pp.maxSteps 700
set_option maxRecDepth 100000
set_option maxHeartbeats 2000000
namespace K3
open PySem PySem.Spec PyProof.Rows L2
open TL (tl)
def nm12 : List Str := ["put", "read", "item", "field", "name", "own", "plus", "less", "units", "rows", "e", "n0"]
theorem at_sign {xs : List Nat} {z : Int} {j : Nat} {v : Nat} (e : z = (j : Int)) (h : xs[j]? = some v) : atI xs z = some v := by
  rw [e]
  exact atI_nat h
/-- a sign of a text by a drawn number -/
theorem item_ok {m : Nat} {z : Str} (h : okS m z = true) {v : Int} (h0 : 0 ≤ v) (h1 : v < z.length) : ∃ c, atI z.cps.toList v = some c ∧ okS 1 ⟨#[c]⟩ = true := by
  have hl : v.toNat < (tl z).length := by
    rw [← TL.len_tl z]
    omega
  refine ⟨(tl z)[v.toNat], at_sign ?_ (List.getElem?_eq_getElem hl), okS_of (fun c hc => ?_) (Nat.le_refl _) (Nat.le_refl _)⟩
  · omega
  · have e : c = (tl z)[v.toNat] := by simpa using hc
    rw [e]
    exact (okS_to h).1 _ (List.getElem_mem hl)
def digs (i : Nat) : Str := toString (i : Int)
theorem digs_ok : ∀ i : Fin 90, okS 2 (digs i.val) = true := by decide +kernel
def cnd (x : Str) (i : Nat) : Str := cutS x none (some 1) ++ digs i
def cands (x : Str) : List Str := x :: (List.range 90).map (cnd x)
theorem cut1_ok {m : Nat} {x : Str} (h : okS m x = true) : okS 1 (cutS x none (some 1)) = true := by
  obtain ⟨h1, h2, h3⟩ := okS_to h
  have e : tl (cutS x none (some 1)) = (tl x).take 1 := by
    show ((x.cps.toList.drop (HT.sIx x.length 0 none)).take (HT.sIx x.length x.length (some ((1 : Nat) : Int)) - HT.sIx x.length 0 none)) = _
    rw [HT.sIx_nat, HT.sIx_none, List.drop_zero]
    congr 1
    omega
  have hl : (tl x).length = x.length := (TL.len_tl x).symm
  refine okS_of (fun c hc => ?_) ?_ ?_
  · rw [e] at hc
    exact h1 c (List.mem_of_mem_take hc)
  · rw [TL.len_tl, e, List.length_take]
    omega
  · rw [TL.len_tl, e, List.length_take]
    omega
theorem cnd_ok {m : Nat} {x : Str} (h : okS m x = true) {i : Nat} (hi : i < 90) : okS 3 (cnd x i) = true := okS_app (cut1_ok h) (digs_ok ⟨i, hi⟩) (by decide)
theorem cands_ok {x : Str} (h : okS 10 x = true) : ∀ y ∈ cands x, okS 10 y = true := by
  intro y hy
  rcases List.mem_cons.mp hy with rfl | hy
  · exact h
  · obtain ⟨i, hi, rfl⟩ := List.mem_map.mp hy
    exact okS_mono (cnd_ok h (List.mem_range.mp hi)) (by decide)
def dig (c : Nat) : Bool := decide (48 ≤ c) && decide (c ≤ 57)
def sec (x : Str) : Bool := match (tl x)[1]? with
  | some c => dig c
  | none => false
theorem wds_sec : wds.all (fun w => !sec w) = true := by decide +kernel
theorem digs_fst : ∀ i : Fin 90, (match (tl (digs i.val))[0]? with | some c => dig c | none => false) = true := by decide +kernel
theorem digs_nd : ((List.range 90).map digs).Nodup := by decide +kernel
theorem cnd_sec {m : Nat} {x : Str} (h : okS m x = true) {i : Nat} (hi : i < 90) : sec (cnd x i) = true := by
  obtain ⟨_, h2, h3⟩ := okS_to (cut1_ok h)
  have hl : (tl (cutS x none (some 1))).length = 1 := by
    rw [← TL.len_tl]
    omega
  have e : (tl (cnd x i))[1]? = (tl (digs i))[0]? := by
    unfold cnd
    rw [TL.tl_append, List.getElem?_append_right (by omega), hl]
  have q := digs_fst ⟨i, hi⟩
  unfold sec
  rw [e]
  exact q
theorem not_word {m : Nat} {x : Str} (h : okS m x = true) {i : Nat} (hi : i < 90) : inV (.str (cnd x i)) (wds.map V.str) = false := by
  unfold inV
  rw [List.any_eq_false]
  intro y hy
  obtain ⟨w, hw, rfl⟩ := List.mem_map.mp hy
  show ¬ (w == cnd x i) = true
  intro z
  have z := eq_of_beq z
  have q := List.all_eq_true.mp wds_sec w hw
  rw [z, cnd_sec h hi] at q
  cases q
theorem pig {α : Type} [DecidableEq α] : ∀ (l ts : List α), l.Nodup → (∀ x ∈ l, x ∈ ts) → l.length ≤ ts.length
  | [], ts, _, _ => Nat.zero_le _
  | x :: l, ts, nd, h => by
    obtain ⟨h1, h2⟩ := List.nodup_cons.mp nd
    have hx := h x List.mem_cons_self
    have ih := pig l (ts.erase x) h2 fun y hy => (List.mem_erase_of_ne fun (e : y = x) => h1 (e ▸ hy)).mpr (h y (List.mem_cons_of_mem _ hy))
    rw [List.length_erase_of_mem hx] at ih
    have := List.length_pos_of_mem hx
    show l.length + 1 ≤ ts.length
    omega
theorem tl_one {x y : Str} (h : tl x = tl y) : x = y := by
  obtain ⟨a⟩ := x
  obtain ⟨b⟩ := y
  exact congrArg Str.mk (Array.toList_inj.mp h)
theorem cnd_inj {x : Str} {i j : Nat} (e : cnd x i = cnd x j) : digs i = digs j := by
  have q := congrArg tl e
  unfold cnd at q
  rw [TL.tl_append, TL.tl_append] at q
  exact tl_one (List.append_cancel_left q)
theorem free_cnd (x : Str) {ts : List Str} (h : ts.length ≤ 60) : ∃ i, i < 90 ∧ cnd x i ∉ ts := by
  refine Classical.byContradiction fun z => ?_
  have all : ∀ y ∈ (List.range 90).map (cnd x), y ∈ ts := fun y hy => by
    obtain ⟨i, hi, rfl⟩ := List.mem_map.mp hy
    exact Classical.byContradiction fun q => z ⟨i, List.mem_range.mp hi, q⟩
  have nd : ((List.range 90).map (cnd x)).Nodup := by
    refine List.Pairwise.map (R := fun i j => digs i ≠ digs j) _ (fun i j q e => q (cnd_inj e)) ?_
    exact List.pairwise_map.mp digs_nd
  have := pig _ ts nd all
  rw [List.length_map, List.length_range] at this
  omega
theorem inV_str {x : Str} {ts : List Str} : inV (.str x) (ts.map V.str) = decide (x ∈ ts) := by
  unfold inV
  by_cases h : x ∈ ts
  · rw [decide_eq_true h]
    exact List.any_eq_true.mpr ⟨.str x, List.mem_map.mpr ⟨x, h, rfl⟩, beq_self_eq_true x⟩
  · rw [decide_eq_false h, List.any_eq_false]
    intro y hy
    obtain ⟨w, hw, rfl⟩ := List.mem_map.mp hy
    show ¬ (w == x) = true
    intro z
    exact h (eq_of_beq z ▸ hw)
theorem str_flat : ∀ ts : List Str, (ts.map V.str).all flatV = true
  | [] => rfl
  | _ :: ts => str_flat ts
theorem wds_flat : (wds.map V.str).all flatV = true := by decide +kernel
theorem o26 : okS 26 L26 = true := by decide +kernel
theorem o36 : okS 36 (L26 ++ D10) = true := by decide +kernel
theorem l26 : L26.length = 26 := by decide +kernel
theorem l36 : (L26 ++ D10).length = 36 := by decide +kernel
theorem o12 : nm12.all (okS 10) = true := by decide +kernel
theorem ints5 {v : V} (h : v ∈ [V.int 1, V.int 0, V.int 2, V.int 7, V.int 3]) : ∃ m : Nat, v = .int (m : Int) ∧ m ≤ 7 := by
  simp only [List.mem_cons, List.not_mem_nil, or_false] at h
  rcases h with rfl | rfl | rfl | rfl | rfl
  · exact ⟨1, rfl, by decide⟩
  · exact ⟨0, rfl, by decide⟩
  · exact ⟨2, rfl, by decide⟩
  · exact ⟨7, rfl, by decide⟩
  · exact ⟨3, rfl, by decide⟩
/-- a letter, then letters and digits -/
def nmP (s : Str) : Bool := isLet ((tl s).getD 0 0) && (tl s).all isSgn
theorem nameS_of {s : Str} (h1 : okS 8 s = true) (h2 : nmP s = true) (h3 : s ∉ wds) : nameS s = true := by
  obtain ⟨_, a1, a2⟩ := okS_to h1
  unfold nmP at h2
  rw [Bool.and_eq_true] at h2
  unfold nameS
  rw [decide_eq_true a1, decide_eq_true a2, h2.1, h2.2, decide_eq_false h3]
  rfl
theorem nmP_one {c : Nat} (h : isLet c = true) : nmP ⟨#[c]⟩ = true := by
  show (isLet c && (isSgn c && true)) = true
  unfold isSgn
  rw [h]
  rfl
theorem nmP_app {x y : Str} (h0 : 1 ≤ x.length) (h : nmP x = true) (hy : (tl y).all isSgn = true) : nmP (x ++ y) = true := by
  unfold nmP at h ⊢
  rw [Bool.and_eq_true] at h ⊢
  rw [TL.len_tl] at h0
  refine ⟨?_, ?_⟩
  · rw [TL.tl_append, List.getD_eq_getElem?_getD, List.getElem?_append_left (by omega), ← List.getD_eq_getElem?_getD]
    exact h.1
  · rw [TL.tl_append, List.all_append, h.2, hy]
    rfl
theorem nmP_cut {x : Str} (h0 : 1 ≤ x.length) (h : nmP x = true) : nmP (cutS x none (some 1)) = true := by
  have e : tl (cutS x none (some 1)) = (tl x).take 1 := by
    show ((x.cps.toList.drop (HT.sIx x.length 0 none)).take (HT.sIx x.length x.length (some ((1 : Nat) : Int)) - HT.sIx x.length 0 none)) = _
    rw [HT.sIx_nat, HT.sIx_none, List.drop_zero]
    congr 1
    omega
  unfold nmP at h ⊢
  rw [Bool.and_eq_true] at h ⊢
  rw [e]
  refine ⟨?_, ?_⟩
  · rw [List.getD_eq_getElem?_getD, List.getElem?_take_of_lt (by decide), ← List.getD_eq_getElem?_getD]
    exact h.1
  · rw [List.all_eq_true] at h ⊢
    exact fun c hc => h.2 c (List.mem_of_mem_take hc)
theorem digs_sgn : ∀ i : Fin 90, (tl (digs i.val)).all isSgn = true := by decide +kernel
theorem cands_nm {x : Str} (h : okS 8 x = true) (hn : nmP x = true) : ∀ y ∈ cands x, okS 8 y = true ∧ nmP y = true := by
  intro y hy
  obtain ⟨_, a1, _⟩ := okS_to h
  rcases List.mem_cons.mp hy with rfl | hy
  · exact ⟨h, hn⟩
  · obtain ⟨i, hi, rfl⟩ := List.mem_map.mp hy
    have hi := List.mem_range.mp hi
    refine ⟨okS_mono (cnd_ok h hi) (by decide), ?_⟩
    exact nmP_app (okS_to (cut1_ok h)).2.1 (nmP_cut a1 hn) (digs_sgn ⟨i, hi⟩)
theorem item_in {z : Str} {v : Int} {c : Nat} (h : atI z.cps.toList v = some c) : c ∈ tl z := by
  unfold atI at h
  obtain ⟨j, _, e⟩ := Option.bind_eq_some_iff.mp h
  exact List.mem_of_getElem? e
theorem sgn_36 {c : Nat} (h : c ∈ tl (L26 ++ D10)) : isSgn c = true := by
  rw [TL.tl_append] at h
  unfold isSgn isLet
  rcases List.mem_append.mp h with h | h
  · rw [decide_eq_true (show c ∈ L26.cps.toList from h)]
    rfl
  · rw [decide_eq_true (show c ∈ D10.cps.toList from h), Bool.or_true]
theorem o12' : nm12.all (fun x => okS 8 x && nmP x) = true := by decide +kernel
theorem pick_nm {v : V} (hv : v ∈ nm12.map V.str) : ∃ x : Str, v = .str x ∧ okS 8 x = true ∧ nmP x = true := by
  obtain ⟨x, hx, rfl⟩ := List.mem_map.mp hv
  have h := List.all_eq_true.mp o12' x hx
  rw [Bool.and_eq_true] at h
  exact ⟨x, rfl, h.1, h.2⟩
theorem StA.ne_g {H : Hp} {d g c : Addr} {n : Nat} (S : StA H d g c n) {p : Addr} (hp : H p = none) : p ≠ g ∧ p ≠ d := by
  obtain ⟨r, t, gs, cs, S⟩ := S
  exact ⟨(ne_of_none S.gl hp).symm, (ne_of_none S.dk hp).symm⟩
section
variable {P : Program} {w : World} {K : PySem.W.Frag} {mg : Str → Option Value} {base : Heap}
theorem scNam : FnScope ["state", "taken", "letters", "found", "lap", "some", "at", "name"] ["state", "taken"] (defScope sNam) := ⟨rfl, rfl, rfl, by decide +kernel, rfl, by decide +kernel, by decide +kernel⟩
theorem ok_nam {f fM fD fP fW : Addr} {fd fdM fdD fdP fdW : FuncData} (F : Fun K "_law_tx_name" "_law_tx_name" sNam f fd) (T : MgN K mg fM fD fP fW) (FM : Fun K "_law_mixed" "_law_mixed" sMix fM fdM) (bM : L2.Binds K fdM ["state"] [])
    (FD : Fun K "_law_draw" "_law_draw" sDrw fD fdD) (bD : L2.Binds K fdD ["state", "room"] []) (FP : Fun K "_law_pick" "_law_pick" sPck fP fdP) (bP : L2.Binds K fdP ["state", "some"] [])
    (FW : Fun K "_law_tx_words" "_law_tx_words" sWds fW fdW) (bW : L2.Binds K fdW [] []) : FnOk P w K mg base CX0 4 f fd ["state", "taken"] spNam := by
  have GD : FnOk P w K mg base CX0 2 fD fdD ["state", "room"] spDrw := ok_drw FD T.toMgS FM bM
  have GP : FnOk P w K mg base CX0 3 fP fdP ["state", "some"] spPck := ok_pck FP T.toMgS FM bM FD bD
  have GW : FnOk P w K mg base CX0 1 fW fdW [] spWds := ok_wds FW
  refine F.ok scNam (fun vs H Q E h => ?_) (fun cdv A outer s H vs Q E hr h => ?_)
  · obtain ⟨d, g, c, a, n, ts, rfl, _⟩ := h
    rfl
  · obtain ⟨d, g, c, a, n, ts, rfl, S, hn, ha, hts, hag, k⟩ := h
    have hr1 : Room 1 _ := hr.mono (by decide)
    have hr2 : Room 2 _ := hr.mono (by decide)
    refine ⟨_, pss_cons (ps_set (i := 2) scNam.nd rfl (Or.inl rfl) pe_str)
      (pss_cons (ps_set (i := 3) scNam.nd rfl (Or.inr rfl) (pe_ix ix_str (pv 2) (pe_call GD hr2 (by rfl) T.dr T.kdr bD .nil pass0 (pa_cons (pv 0) (pa_cons pe_int pa_nil))) (fun _ _ => rfl)))
      (pss_cons (ps_for PassesOwn.never rfl (pi_range1 (by rfl) T.rng (pa_cons (pe_call GP hr (by rfl) T.pk T.kpk bP .nil pass0 (pa_cons (pv 0) (pa_cons (pe_lst (pa_cons pe_int (pa_cons pe_int (pa_cons pe_int (pa_cons pe_int (pa_cons pe_int pa_nil)))))) pa_nil))) pa_nil)) (pg_name (i := 4) scNam.nd rfl (Or.inl rfl))
        (pss_one (ps_set (i := 3) scNam.nd rfl (Or.inr rfl) (pe_op op_add_str (pv 3) (pe_ix ix_str (pe_op op_add_str (pv 2) pe_str) (pe_call GD hr2 (by rfl) T.dr T.kdr bD .nil pass0 (pa_cons (pv 0) (pa_cons pe_int pa_nil))) (fun _ _ => rfl))))))
      (pss_mid (ps_if (pt_cmpR op_eq (pe_call GD hr2 (by rfl) T.dr T.kdr bD .nil pass0 (pa_cons (pv 0) (pa_cons pe_int pa_nil))) pe_int (nomark _))
        (pss_one (ps_set (i := 3) scNam.nd rfl (Or.inr rfl) (pe_call GP hr (by rfl) T.pk T.kpk bP .nil pass0 (pa_cons (pv 0) (pa_cons (pe_lst (pa_cons pe_str (pa_cons pe_str (pa_cons pe_str (pa_cons pe_str (pa_cons pe_str (pa_cons pe_str (pa_cons pe_str (pa_cons pe_str (pa_cons pe_str (pa_cons pe_str (pa_cons pe_str (pa_cons pe_str pa_nil))))))))))))) pa_nil))))) pss_nil)
      (pss_cons (ps_set (i := 5) scNam.nd rfl (Or.inl rfl) (pe_op op_cat (pe_lst (pa_cons (pv 3) pa_nil)) (pe_lc (own := [("at", 6)]) (g := gName 6) (tt := tYes) (by rfl) scNam.nd (pi_range1 (by rfl) T.rng (pa_cons pe_int pa_nil))
          (blkOk_by (own := [("at", 6)]) (N := ["state", "taken", "letters", "found", "lap", "some", "at", "name"]) (sc := defScope sNam) (by decide +kernel)) (fun _ _ _ _ _ => pg_name (i := 6) scNam.nd rfl (Or.inl rfl)) (fun _ _ _ _ _ => pts_nil)
          (fun _ _ _ _ _ => pe_op op_add_str (pe_slice sl_str (pv 3) po_none (po_some pe_int)) (pe_callTy call_str_int (by rfl) T.str (by decide +kernel) (pa_cons (pv 6) pa_nil))))))
      (pss_one (ps_ret (pe_ix ix_list (pe_lc (own := [("name", 7)]) (g := gName 7) (by rfl) scNam.nd (pi_list (pv 5))
          (blkOk_by (own := [("name", 7)]) (N := ["state", "taken", "letters", "found", "lap", "some", "at", "name"]) (sc := defScope sNam) (by decide +kernel)) (fun _ _ _ _ _ => pg_name (i := 7) scNam.nd rfl (Or.inl rfl))
          (fun _ _ _ _ _ => pts_one (PW.pt (pw_and (pt_cmpR (show OpR _ (compareOp .NotIn) (rIn K true) from op_notIn_seq) (pv 7) (pv 1) (by rfl)) (pw_and1 (pt_cmpR (show OpR _ (compareOp .NotIn) (rIn K true) from op_notIn_seq) (pv 7) (pe_call0 GW hr1 (by rfl) T.wd T.kwd bW .nil pass0) (by rfl))))))
          (fun _ _ _ _ _ => pv 7)) pe_int (fun _ _ => rfl)))))))), ?_⟩
    refine ⟨_, rfl, _, rfl, d, g, c, n, 26, rfl, S, by omega, by decide, by decide, fun v H1 h0 h1 S1 kp1 => ?_⟩
    obtain ⟨c1, e1, ok1⟩ := item_ok o26 h0 (by rw [l26]; exact h1)
    refine ⟨L26, v, c1, rfl, rfl, (by decide +kernel), e1, ?_⟩
    -- for lap in range(..)
    refine ⟨_, rfl, (by show 5 ≤ sizeLine; decide), fun l hl => ?_⟩
    refine ⟨d, g, c, l, n + 1, _, rfl, S1.keep (same_new hl), by omega, upd_same, (S1.ne_g hl).1, by simp, by decide, fun v2 H2 hv2 S2 kp2 => ?_⟩
    obtain ⟨m, rfl, hm⟩ := ints5 hv2
    have kpa : Kp d g H H2 := kp1.trans ((Kp.of (same_new hl)).trans kp2)
    refine ⟨_, rfl, by omega, by omega, for_range (lo := 0) (n := ((m : Nat) : Int).toNat)
      (fun i σ H' => ∃ (x : Str) (lv : Option V), σ = [some (.ref d), some (.ref a), some (.str L26), some (.str x), lv, none, none, none] ∧ okS (i + 1) x = true ∧ nmP x = true ∧ StA H' d g c (n + 2 + i) ∧ Kp d g H H')
      ⟨_, none, rfl, ok1, nmP_one (decide_eq_true (item_in e1)), S2, kpa⟩ ?_ ?_⟩
    · rintro i σ H' hi ⟨x, lv, rfl, okx, nmx, S3, kp3⟩
      have hi7 : i < 7 := by omega
      refine ⟨_, rfl, _, rfl, L26, D10, rfl, rfl, (by decide +kernel), _, rfl, d, g, c, n + 2 + i, 36, rfl, S3, by omega, by decide, by decide, fun v3 H3 h2 h3 S4 kp4 => ?_⟩
      obtain ⟨c2, e2, ok2⟩ := item_ok o36 h2 (by rw [l36]; exact h3)
      refine ⟨L26 ++ D10, v3, c2, rfl, rfl, (by decide +kernel), e2, ?_⟩
      have oka := okS_app okx ok2 (Nat.le_refl _)
      refine ⟨x, ⟨#[c2]⟩, rfl, rfl, ?_, _, _, rfl, oka, nmP_app (okS_to okx).2.1 nmx (by show (isSgn c2 && true) = true; rw [sgn_36 (item_in e2)]; rfl), S4, kp3.trans kp4⟩
      have := (okS_to okx).2.2
      rw [sizeLine_eq]
      show x.length + 1 ≤ _
      omega
    · rintro σ H3 ⟨x, lv, rfl, okx, nmx, S3, kp3⟩
      have hm8 : ((m : Nat) : Int).toNat ≤ 7 := by omega
      have okx := okS_mono (n := 8) okx (by omega)
      have S3 := S3.mono (m := n + 9) (by omega)
      -- if draw == 0
      refine ⟨fun σ' H' => ∃ x : Str, σ' = [some (.ref d), some (.ref a), some (.str L26), some (.str x), lv, none, none, none] ∧ okS 8 x = true ∧ nmP x = true ∧ StA H' d g c (n + 12) ∧ Kp d g H H', ?_, ?_⟩
      · refine ⟨_, rfl, d, g, c, n + 9, 6, rfl, S3, by omega, by decide, by decide, fun v4 H4 _ _ S4 kp4 => ?_⟩
        refine ⟨rfl, _, rfl, ?_⟩
        by_cases hv : V.int v4 = V.int 0
        · refine ifT (decide_eq_true hv) ?_
          refine ⟨_, rfl, (by show 12 ≤ sizeLine; decide), fun l2 hl2 => ?_⟩
          refine ⟨d, g, c, l2, n + 10, nm12.map V.str, rfl, S4.keep (same_new hl2), by omega, upd_same, (S4.ne_g hl2).1, by simp [nm12], by decide, fun v5 H5 hv5 S5 kp5 => ?_⟩
          obtain ⟨y, rfl, oky, nmy⟩ := pick_nm hv5
          exact ⟨y, rfl, oky, nmy, S5.mono (by omega), kp3.trans (kp4.trans ((Kp.of (same_new hl2)).trans kp5))⟩
        · refine ifF (decide_eq_false hv) ?_
          exact ⟨x, rfl, okx, nmx, S4.mono (by omega), kp3.trans kp4⟩
      · rintro σ' H4 ⟨x, rfl, okx, nmx, S4, kp4⟩
        have hxs : x.length ≤ sizeLine := by
          have := (okS_to okx).2.2
          rw [sizeLine_eq]
          omega
        have ha4 : H4 a = some (.lst (ts.map V.str)) := kp4 _ _ ha (by
          obtain ⟨r, t, gs, cs, S⟩ := S
          exact ne_of ha S.dk (by intro z; cases z)) hag
        -- some = [found] + [..]
        refine ⟨_, rfl, (by show 1 ≤ sizeLine; decide), fun l3 hl3 => ?_⟩
        refine ⟨90, rfl, by decide, by decide, fun D hD => lc_range (lo := 0) (n := 90)
          (fun i H' => H' D = some (.lst (((List.range i).map (cnd x)).map V.str)) ∧ Same (upd H4 l3 (.lst [V.str x])) H') ⟨upd_same, same_new hD⟩ ?_ ?_⟩
        · rintro i H' hi ⟨h1, s1⟩
          refine ⟨rfl, ?_⟩
          have od : okS 2 (digs i) = true := digs_ok ⟨i, hi⟩
          have e0 : (0 : Int) + (i : Nat) = (i : Nat) := Int.zero_add _
          rw [e0]
          refine ⟨_, rfl, _, rfl, x, rfl, hxs, _, rfl, (i : Nat), rfl, ?_, cutS x none (some 1), digs i, rfl, rfl, ?_, _, h1, ?_, ?_, ?_⟩
          · rw [Int.natAbs_natCast]
            exact Nat.lt_of_le_of_lt (Nat.log2_le_self i) (by omega)
          · have h3 := (okS_to (cut1_ok okx)).2.2
            have h4 := (okS_to od).2.2
            rw [sizeLine_eq]
            omega
          · rw [List.length_map, List.length_map, List.length_range, sizeLine_eq]
            omega
          · rw [upd_same, List.range_succ, List.map_append, List.map_append]
            rfl
          · intro b o e
            rw [upd_ne (ne_of_none e hD)]
            exact s1 _ _ e
        · rintro H5 ⟨h1, s1⟩
          refine ⟨l3, D, [.str x], _, rfl, rfl, s1 _ _ upd_same, h1, (by rw [List.length_map, List.length_map, List.length_range, sizeLine_eq]; show 1 + 90 ≤ _; omega), fun mm hmm => ?_⟩
          have s5 : Same H4 (upd H5 mm (.lst ([V.str x] ++ (((List.range 90).map (cnd x)).map V.str)))) := ((same_new hl3).trans s1).trans (same_new hmm)
          have hc5 : (upd H5 mm (.lst ([V.str x] ++ (((List.range 90).map (cnd x)).map V.str)))) mm = some (.lst ((cands x).map V.str)) := upd_same
          generalize upd H5 mm (.lst ([V.str x] ++ (((List.range 90).map (cnd x)).map V.str))) = H6 at s5 hc5 ⊢
          -- return [name for ..][0]
          refine ⟨_, rfl, mm, rfl, ⟨_, SqL.of hc5⟩, fun R hR => lc_list (K := K) (a := mm) (xs := (cands x).map V.str)
            (fun i H' => ∃ acc : List Str, H' R = some (.lst (acc.map V.str)) ∧ (∀ y ∈ acc, okS 8 y = true ∧ nameS y = true ∧ y ∉ ts) ∧ (∀ j nm, j < i → (cands x)[j]? = some nm → inV (.str nm) (ts.map V.str) = false → inV (.str nm) (wds.map V.str) = false → acc ≠ []) ∧ acc.length ≤ i ∧ Same H6 H')
            ⟨[], upd_same, (fun y hy => by cases hy), (fun j nm z => by omega), Nat.le_refl _, same_new hR⟩ (fun i H' _ ⟨_, _, _, _, _, s6⟩ => SqL.of (s6 _ _ hc5)) ?_ ?_⟩
          · rintro i y H' hi ⟨acc, h2, h3, h4, h5, s6⟩
            have hil : i < ((cands x).map V.str).length := (List.getElem?_eq_some_iff.mp hi).1
            have hlc : ((cands x).map V.str).length = 91 := by
              rw [List.length_map]
              unfold cands
              rw [List.length_cons, List.length_map, List.length_range]
            rw [List.getElem?_map] at hi
            obtain ⟨nm, hnm, rfl⟩ := Option.map_eq_some_iff.mp hi
            obtain ⟨okn, nmn⟩ := cands_nm okx nmx nm (List.mem_of_getElem? hnm)
            refine ⟨rfl, ?_⟩
            have keep : ∀ {H7 : Hp}, Same H6 H7 → inV (.str nm) (ts.map V.str) = true ∨ inV (.str nm) (wds.map V.str) = true → ∀ j nm', j < i + 1 → (cands x)[j]? = some nm' → inV (.str nm') (ts.map V.str) = false → inV (.str nm') (wds.map V.str) = false → acc ≠ [] := by
              intro H7 _ hb j nm' hj hn' f1 f2
              by_cases e : j = i
              · rw [e, hnm] at hn'
                obtain rfl := Option.some.inj hn'
                rcases hb with hb | hb
                · rw [f1] at hb
                  cases hb
                · rw [f2] at hb
                  cases hb
              · exact h4 j nm' (by omega) hn' f1 f2
            refine ⟨_, rfl, _, rfl, a, ts.map V.str, rfl, .inl (SqL.of (s6 _ _ (s5 _ _ ha4))), rfl, str_flat ts, _, rfl, ?_⟩
            cases hit : inV (.str nm) (ts.map V.str) with
            | true =>
              refine ifF (by rfl) ?_
              refine ifF rfl ?_
              exact ⟨acc, h2, h3, keep s6 (.inl hit), by omega, s6⟩
            | false =>
              refine ifT (by rfl) ?_
              refine ⟨_, rfl, rfl, fun wp H7 s7 hwn hw7 => ?_⟩
              refine ⟨wp, _, rfl, .inl (SqL.of hw7), rfl, wds_flat, _, rfl, ?_⟩
              have fin : Same H6 H7 := s6.trans s7
              cases hin : inV (.str nm) (wds.map V.str) with
              | false =>
                refine ifT (by rfl) ?_
                refine ⟨_, rfl, acc.map V.str, s7 _ _ h2, by rw [List.length_map, sizeLine_eq]; omega, acc ++ [nm], ?_, ?_, ?_, ?_, ?_⟩
                · rw [upd_same, List.map_append]
                  rfl
                · intro y hy
                  rcases List.mem_append.mp hy with hy | hy
                  · exact h3 y hy
                  · rw [List.mem_singleton.mp hy]
                    rw [inV_str] at hit hin
                    exact ⟨okn, nameS_of okn nmn (of_decide_eq_false hin), of_decide_eq_false hit⟩
                · intro j nm' _ _ _ _ z
                  simp at z
                · rw [List.length_append]
                  show acc.length + 1 ≤ i + 1
                  omega
                · intro b o e
                  rw [upd_ne (ne_of_none e hR)]
                  exact fin _ _ e
              | true =>
                refine ifF (by rfl) ?_
                exact ⟨acc, s7 _ _ h2, h3, keep fin (.inr hin), by omega, fin⟩
          · rintro H7 ⟨acc, h2, h3, h4, h5, s6⟩
            have hlc : ((cands x).map V.str).length = 91 := by
              rw [List.length_map]
              unfold cands
              rw [List.length_cons, List.length_map, List.length_range]
            cases acc with
            | nil =>
              obtain ⟨i0, hi0, hf⟩ := free_cnd x hts
              have q : (cands x)[i0 + 1]? = some (cnd x i0) := by
                show ((List.range 90).map (cnd x))[i0]? = _
                rw [List.getElem?_map, List.getElem?_range hi0]
                rfl
              exact absurd rfl (h4 (i0 + 1) (cnd x i0) (by omega) q (inV_str.trans (decide_eq_false hf)) (not_word okx hi0))
            | cons y r =>
              refine ⟨R, _, 0, .str y, rfl, rfl, SqL.of h2, atI_nat (j := 0) rfl, ?_⟩
              obtain ⟨y1, y2, y3⟩ := h3 y (List.mem_cons_self ..)
              exact k y H7 (okS_mono y1 (by decide)) (S4.keep (s5.trans s6)) (kp4.trans (Kp.of (s5.trans s6))) y2 y3
end
end K3

set_option Elab.async false
set_option linter.all false
set_option pp.maxSteps 700
set_option maxRecDepth 100000
set_option maxHeartbeats 2000000
namespace K3
open PySem PySem.Spec PyProof.Rows L2
open TL (tl)
open LamX (GivesTo CodeO Tabs TabS TabB tLam pe_lamcall lamCx lamEnv lamS_by ExtN)
abbrev sCgt : Stmt := top 55
/-! ### an error that was caught and is kept -/
def exh (a : Addr) (cls : Value) (d : Option Addr) : HO := .ext fun h => ∃ (oe : Obj) (vs : Array Value), h.get? a = some oe ∧ Zc cls d oe ∧ oe.data = .fields vs
theorem exh_ok {P : Program} {w : World} {H : Hp} {h : Heap} {a : Addr} {cls : Value} {d : Option Addr} {oe : Obj} {vs : Array Value} (e : h.get? a = some oe) (z : Zc cls d oe) (hd : oe.data = .fields vs) : ObjOk P w H h a (exh a cls d) :=
  ⟨⟨oe, vs, e, z, hd⟩, ⟨oe, e⟩, fun h1 h2 x k => by
    obtain ⟨o1, v1, e1, z1, d1⟩ := x
    exact ⟨o1, v1, k _ e1, z1, d1⟩⟩
theorem exh_at {P : Program} {w : World} {H : Hp} {h : Heap} {a : Addr} {cls : Value} {d : Option Addr} (hok : HOk P w H h) (e : H a = some (exh a cls d)) : ∃ (oe : Obj) (vs : Array Value), h.get? a = some oe ∧ Zc cls d oe ∧ oe.data = .fields vs := by
  have x : ObjOk P w H h a (.ext fun h => ∃ (oe : Obj) (vs : Array Value), h.get? a = some oe ∧ Zc cls d oe ∧ oe.data = .fields vs) := hok a _ e
  exact x.1
section
variable {X : Cx} {pins : List (Addr × Obj)} {σ : L2.St} {H : Hp} {s : Shared}
theorem inv_track {a : Addr} {oe : Obj} {vs : Array Value} {cls : Value} {d : Option Addr} (I : Inv X pins σ H s) (ha : s.heap.get? a = some oe) (hz : Zc cls d oe) (hd : oe.data = .fields vs) (na : H a = none)
    (n0 : X.s_0.heap.get? a = none) (nL : a ≠ X.env.locals) (np : ∀ p ∈ X.pn ++ pins, p.1 ≠ a) : Inv X pins σ (upd H a (exh a cls d)) s := by
  have nH : ∀ {b : Addr} {o : HO}, H b = some o → b ≠ a := fun {b o} e => ne_of_none e na
  refine ⟨I.ok, I.os, I.bare, ⟨I.base.keep, I.base.slot, ?_, I.base.there, ?_, ?_, ?_⟩, I.loc, I.cell, ?_, ?_, ?_, ?_, I.len⟩
  · intro b o q n hx
    have : b ≠ a := fun z => by rw [z, n0] at q; cases q
    rw [upd_ne this]
    exact I.base.free b o q n hx
  · intro b xs q
    have q1 := I.base.tups b xs q
    rw [upd_ne (nH q1)]
    exact q1
  · intro b o u q
    have q1 := I.base.frzs b o u q
    rw [upd_ne (nH q1)]
    exact q1
  · intro b ps q
    obtain ⟨more, q1⟩ := I.base.tbls b ps q
    exact ⟨more, by rw [upd_ne (nH q1)]; exact q1⟩
  · rw [upd_ne nL.symm]
    exact I.free
  · intro x c e
    obtain ⟨v, o, h1, h2⟩ := I.cell x c e
    have : c ≠ a := fun z => by
      rw [z, ha] at h1
      cases h1
      rw [hd] at h2
      cases h2
    rw [upd_ne this]
    exact I.freeC x c e
  · intro p hp
    obtain ⟨p1, p2, p3, p4, p5⟩ := I.pin p hp
    exact ⟨p1, by rw [upd_ne (np p hp)]; exact p2, p3, p4, p5⟩
  · intro b o e
    by_cases hb : b = a
    · subst hb
      rw [upd_same] at e
      cases e
      exact exh_ok ha hz hd
    · rw [upd_ne hb] at e
      exact (I.hok b o e).stay (fun c v _ q => q) (fun c q => by rw [upd_ne (nH q)]; exact q) fun c xs q => by rw [upd_ne (nH q)]; exact q
end
/-- try .. except x as n: the error stays known behind the suite -/
def wKp (K : PySem.W.Frag) (c : Value) (i : Nat) (ts : Addr → Value → Option Addr → TS) (Wout : WX) (D : Ends) : WX := fun cls d σ H =>
  ∃ b, PySem.W.exmOne K cls c = some b ∧ (b = true → ∀ a, H a = none → ts a cls d { nx := fun σ' H' => D.nx (σ'.set i none) (upd H' a (exh a cls d)), rt := fun v H' => D.rt v (upd H' a (exh a cls d)), bk := fun σ' H' => D.bk (σ'.set i none) (upd H' a (exh a cls d)), ct := fun σ' H' => D.ct (σ'.set i none) (upd H' a (exh a cls d)) } (σ.set i (some (.ref a))) H) ∧ (b = false → Wout cls d σ H)
section
variable {X : Cx} {x n : Str} {c : Value} {i : Nat} {body suite : List Stmt} {b₀ : Stmt} {np pos pos' : Pos} {tb : WX → TS} {ts : Addr → Value → Option Addr → TS} {Wout : WX}
theorem ps_try_keep (hs : X.stack = X.env :: X.outer) (hf : X.env.frame = some X.env.locals) (hex : X.ex = []) (hN : X.N.Nodup) (hi : X.N[i]? = some n) (hln : X.env.kindOf n = some .local) (hc : Names X x c) (tk : Takes X Wout)
    (hb : ∀ (W : WX) (pn : List (Addr × Obj)) (xe : Value → Shared → Prop), Takes (X.tr pn xe) W → PassesOwn (model X.prog X.w) X.A X.env xe → PSs (X.tr pn xe) body (tb W))
    (hsu : ∀ (a : Addr) (oe : Obj) (cls : Value) (d : Option Addr) (pn : List (Addr × Obj)), Zc cls d oe → (∃ vs, oe.data = .fields vs) → PSs (X.suite a ((a, oe) :: pn)) (b₀ :: suite) (ts a cls d)) :
    PS X (.Try body [.ExceptHandler (some (.Name x np)) (some n) (b₀ :: suite) pos'] [] [] pos) (fun D σ H => tb (wKp X.K c i ts Wout D) D σ H) := by
  refine ⟨fun pins s σ H D I h => ?_⟩
  have ok := I.ok
  have hfr : X.A.frames = some (X.env :: X.outer) := by rw [ok.frames, hs]
  have hloc : Loc X.env.scope n := .inl hln
  refine wpAny_Try_except ?_
  refine wpAny_mono ((hb (wKp X.K c i ts Wout D) (X.pn ++ pins) (fun e s₁ => wpAny (model X.prog X.w) X.A (noteFrame e X.env) (fun _ s₂ => wpAny (model X.prog X.w) X.A (setFlight e none) (fun _ s₃ =>
    wpAny (model X.prog X.w) X.A (handleBy e X.env [.ExceptHandler (some (.Name x np)) (some n) (b₀ :: suite) pos']) (SP X pins D) X.xe s₃) X.xe s₂) X.xe s₁) (fun u s' xx => ?_) PassesOwn.looking).run [] s σ H D (I.toTry _) h) (fun f s1 hsp => ?_) (fun e s1 he => he)
  · obtain ⟨a, B, sI, pins', σ', H', cls, d, rfl, J', nb, up, sky, na, os, ag, b, hb1, hyes, hno⟩ := xx
    have J : Inv X pins σ' H' sI := J'.ofTry ok
    have sky' : Sky B (X.env :: X.outer) a (Zc cls d) X.env.locals s'.heap := by rw [← hs]; exact sky
    show wpAny (model X.prog X.w) X.A (noteFrame (.ref a) X.env) _ _ _
    refine Sky.land Zc.steady hfr hf sky' fun h3 fl3 up3 => ?_
    have J3 : Inv X pins σ' H' { s' with heap := h3 } := J.landed nb fl3.1 (up.trans up3) os ag
    obtain ⟨oe3, vs3, he3, hz3, hd3⟩ := fl3.there
    have nfr : a ∉ frs (X.env :: X.outer) := fun hm => by
      obtain ⟨_, o', e', hnf⟩ := fl3.2.2.1.mem hm
      rw [he3] at e'; cases e'
      exact hnf _ hd3
    have nL : a ≠ X.env.locals := fun z => nfr (List.mem_filterMap.mpr ⟨X.env, List.mem_cons_self, by rw [hf, z]⟩)
    have nF : a ∉ X.fs := fun hm => by
      obtain ⟨e, he, q⟩ := List.mem_filterMap.mp hm
      exact nfr (List.mem_filterMap.mpr ⟨e, List.mem_cons_of_mem _ he, q⟩)
    have ba : B.get? a = none := fl3.2.1
    have nS : a ∉ frs X.stack := by rw [hs]; exact nfr
    -- the error is newer than the def's entry, and than all that is pinned
    have nI : sI.heap.get? a = none := by
      cases e : sI.heap.get? a with
      | none => rfl
      | some o =>
        have := nb a o e nS
        rw [ba] at this
        cases this
    have n0 : X.s_0.heap.get? a = none := by
      cases e : X.s_0.heap.get? a with
      | none => rfl
      | some o =>
        obtain ⟨o', e'⟩ := J.base.there a o e (by rw [hex]; exact List.not_mem_nil)
        rw [nI] at e'
        cases e'
    have npn : ∀ p ∈ X.pn ++ pins, p.1 ≠ a := fun p hp z => by
      have := (J.pin p hp).1
      rw [z, nI] at this
      cases this
    have S3 := J3.suite he3 hd3 na nL nF
    refine wpAny_handleBy_cons (codeAny_handlers_test ?_) (by intro q; cases q)
    have LT : PySem.W.Looks (model X.prog X.w) h3 (typeOf (.ref a)) cls := fun A Q E s k q => wpAny_typeOf_ref (k _ _ he3) (by rw [hz3.1]; exact q)
    have LM := PySem.W.exm_one (M := model X.prog X.w) (J3.kIn) LT hb1
    have test : ∀ {Q : Value → Shared → Prop} {E : Value → Shared → Prop}, Q c { s' with heap := h3 } → wpAny (model X.prog X.w) (X.A.mark (some (.ref a))) (eval (.Name x np) X.env) Q E { s' with heap := h3 } := fun {Q E} q => by
      obtain ⟨hg, hdbg, hm | ⟨hm, hv, hnn⟩⟩ := hc
      · exact ld_glob (X := X.suite a ((a, oe3) :: (X.pn ++ pins))) S3 hg hm q hdbg
      · exact ld_blt (X := X.suite a ((a, oe3) :: (X.pn ++ pins))) S3 hg hm hv q hnn hdbg
    refine test (LM.here ?_)
    cases b with
    | true =>
      refine codeAny_handlers_suite_as ?_
      refine HandSPX.lands_againZ fl3 fun h4 fl4 up4 => ?_
      have J4 : Inv X pins σ' H' { s' with heap := h4 } := J.landed nb fl4.1 ((up.trans up3).trans up4) os ag
      obtain ⟨oe4, vs4, he4, hz4, hd4⟩ := fl4.there
      have S4 := J4.suite he4 hd4 na nL nF
      refine store_ok (X := X.suite a ((a, oe4) :: (X.pn ++ pins))) (v := .ref a) S4 hN hi hloc rfl (fun s5 S5 => ?_) (.inr hln)
      refine wpAny_mono ((hsu a oe4 cls d (X.pn ++ pins) hz4 ⟨_, hd4⟩).run [] s5 _ H' _ S5 (hyes rfl a na)) (fun f s6 hsp => ?_) (fun _ _ z => False.elim z)
      have end_ : ∀ {σ6 : L2.St} {H6 : Hp} {Q : Shared → Prop}, Inv (X.suite a ((a, oe4) :: (X.pn ++ pins))) [] σ6 H6 s6 → (∀ s7, Inv X pins (σ6.set i none) (upd H6 a (exh a cls d)) s7 → Q s7) →
          wpAny (model X.prog X.w) X.A (do bindName X.env n .none; unbindBehindTheSuite X.env n pos') (fun _ s7 => Q s7) X.xe s6 := fun {σ6 H6 Q} S6 hq => by
        obtain ⟨g1, g2, _, _, _⟩ := S6.pin (a, oe4) (List.mem_append_left _ List.mem_cons_self)
        exact gone_ok (inv_track (S6.unsuite ok) g1 hz4 hd4 g2 n0 nL npn) hN hi hln hq
      cases f with
      | next =>
        obtain ⟨σ6, H6, S6, q6⟩ := hsp
        exact end_ S6 fun s7 J7 => ⟨_, _, J7, q6⟩
      | brk =>
        obtain ⟨σ6, H6, S6, q6⟩ := hsp
        exact end_ S6 fun s7 J7 => ⟨_, _, J7, q6⟩
      | cont =>
        obtain ⟨σ6, H6, S6, q6⟩ := hsp
        exact end_ S6 fun s7 J7 => ⟨_, _, J7, q6⟩
      | ret u =>
        obtain ⟨v6, σ6, H6, S6, r6, q6⟩ := hsp
        exact end_ S6 fun s7 J7 => ⟨_, _, _, J7, r6, q6⟩
    | false =>
      show wpAny _ X.A (handleBy (.ref a) X.env []) _ _ _
      refine wpAny_handleBy_nil ?_
      obtain ⟨k1, k2, k3, oe, vs, T, oT, ts', he, hz, hd, h1, hr⟩ := id fl3
      unfold PySem.passOn
      refine wpAny_bind (wpAny_field he hd h1 ?_)
      rw [if_neg (show ¬ ((Value.ref T == Value.none) = true) from by simp)]
      have fin : wpAny (model X.prog X.w) X.A (setFlight (.ref a) X.env.frame) (fun _ s4 => wpAny (model X.prog X.w) X.A (throw (.ref a) : Sem Flow) (SP X pins D) X.xe s4) X.xe { s' with heap := h3 } := by
        rw [hf]
        refine HandSPX.setFlight_upZ fl3 fun h4 hh4 up4 => wpAny_throw (tk _ _ ?_)
        exact ⟨a, B, sI, pins, σ', H', cls, d, rfl, J, nb, (up.trans up3).trans up4, .inr (.inr (by rw [hs]; exact hh4)), na, os, ag, hno rfl⟩
      first
        | exact wpAny_bind (wpAny_pure (wpAny_bind fin))
        | exact wpAny_bind fin
  · cases f with
    | next =>
      obtain ⟨σ', H', J', q⟩ := hsp
      exact wpAny_execs_nil ⟨σ', H', J'.ofTry ok, q⟩
    | brk =>
      obtain ⟨σ', H', J', q⟩ := hsp
      exact ⟨σ', H', J'.ofTry ok, q⟩
    | cont =>
      obtain ⟨σ', H', J', q⟩ := hsp
      exact ⟨σ', H', J'.ofTry ok, q⟩
    | ret u =>
      obtain ⟨v, σ', H', J', r, q⟩ := hsp
      exact ⟨v, σ', H', J'.ofTry ok, r, q⟩
end
/-! ### what is asked of a kept error -/
theorem exh_inst {X : Cx} {pins : List (Addr × Obj)} {σ : L2.St} {H : Hp} {s : Shared} {a D dd : Addr} {fs : List (Str × V)} (I : Inv X pins σ H s) (h1 : H a = some (exh a (.ref D) (some dd))) (h2 : H dd = some (.xd fs)) :
    ∃ (oe od : Obj) (mA : Str → Option Value), PySem.W.InstAt s.heap a oe D (some od) ∧ (∀ f, RelO (fs.lookup f) (mA f)) ∧ ∀ n, PySem.W.lookIn n od = some (mA n) := by
  obtain ⟨oe, vs, ha, hz, hd⟩ := exh_at I.hok h1
  have hx : ObjOk X.prog X.w H s.heap dd (.xd fs) := I.hok dd _ h2
  obtain ⟨mA, hns, hr⟩ := hx
  obtain ⟨od, ho, hl⟩ := lookIn_ns hns
  exact ⟨oe, od, mA, ⟨ha, hz.1, by unfold PySem.W.notCls; rw [hd] <;> rfl, by rw [hz.2]; exact ho⟩, hr, hl⟩
/-- isinstance(e, c), e a kept error of the class at D -/
def rIsH (K : PySem.W.Frag) (D : Addr) : List V → Hp → VK → Prop := fun xs H Q => ∃ (a dd : Addr) (fs : List (Str × V)) (c : V) (cv : Value) (b : Bool), xs = [.ref a, c] ∧ (∀ u, RelV c u → u = cv) ∧ H a = some (exh a (.ref D) (some dd)) ∧ H dd = some (.xd fs) ∧
  PySem.W.kitOne K (.ref D) cv = some b ∧ Q (.bl b) H
theorem call_isH {X : Cx} {D : Addr} (C : ExcC X.K D) : CallR X (.builtin "isinstance") (rIsH X.K D) := by
  intro pins s σ H xs us Q I r h
  obtain ⟨a, dd, fs, c, cv, b, rfl, hcv, h1, h2, e, q⟩ := h
  obtain ⟨u1, u2, rfl, r1, r2⟩ := vals2 r
  cases r1
  have ec := hcv _ r2
  subst ec
  obtain ⟨oe, od, mA, J, _, _⟩ := exh_inst I h1 h2
  have hcl : (PySem.W.clsIn X.K D).isSome = true := by
    obtain ⟨cd, hc, _⟩ := PySem.W.any_some C.hd
    rw [hc]
    rfl
  exact PySem.W.kia_one (PySem.W.kitx_exc hcl C.hg C.hk C.hs C.ha C.hn C.ht C.hm) I.kIn J e (fun z => nomatch z) fun tk => ⟨.bl b, H, I.kept (t' := tk) fun _ _ z => z, rfl, q⟩
theorem pss_len {X : Cx} {body : List Stmt} {t : TS} {n : Nat} (h : PSs X body t) (hn : X.N.length = n) : PSs X body (fun D σ H => σ.length = n → t D σ H) :=
  ⟨fun pins s σ H D I hh => h.run pins s σ H D I (hh (I.len.trans hn))⟩
theorem pe_weak {X : Cx} {e : Expr} {te : TE} (he : PE X e te) : PE X e (fun σ H Q => ∃ Qc : VK, te σ H Qc ∧ ∀ v H1, Qc v H1 → Q v H1) := by
  refine ⟨fun pins s σ H Q I h => ?_⟩
  obtain ⟨Qc, h, k⟩ := h
  exact thn (he.run pins s σ H Qc I h) fun u s1 ⟨v, H1, I1, r, q⟩ => ⟨v, H1, I1, r, k v H1 q⟩
/-- f(k = v, ..) -/
theorem pe_callK0 {X : Cx} {CX : CXT} {k : Nat} {f : Addr} {fd : FuncData} {ps ks : List Str} {sp : Sp} {E : XK} {x : Str} {p pos : Pos} {kws : List Keyword} {tk : TA} {g : List Value → List Value → List Value} {gV : List V → List V → List V}
    (F : FnOk X.prog X.w X.K X.mg X.base CX k f fd ps sp) (hr : Room k X.A) (hg : Gl X x) (hm : X.mg x = some (.ref f)) (hk : PySem.W.keepIn X.K (.ref f) = true) (hb : KBinds X.K fd ps ks g gV) (hx : Passes CX X E)
    (hkw : PK X kws tk) (hall : (backToKw pos (keywordEach kws X.env)).all (·.1.isSome) = true := by rfl) (hks : (backToKw pos (keywordEach kws X.env)).filterMap (·.1) = ks := by rfl)
    (hdb : (x == ("__debug__" : Str)) = false := by decide) (hpl : ((backTo pos (starEach [] X.env)).any (·.1) || (backToKw pos (keywordEach kws X.env)).any (·.1.isNone)) = false := by rfl) :
    PE X (.Call (.Name x p) [] kws pos) (fun σ H Q => tk σ H fun zs H2 => sp (gV [] zs) H2 Q E) := by
  refine ⟨fun pins s σ H Q I h => ?_⟩
  refine wpAny_Call_Name_kw (ld_glob I hg hm ?_ hdb)
  refine PySem.W.callWith_KW0 (h₀ := X.base) I.ok.mod.kin hk hall ?_ hpl
  refine thn (hkw.run pos pins s σ H _ I h) fun ws s2 ⟨zs, H2, I2, rz, q2⟩ => ⟨I2.kIn, ?_⟩
  rw [hks]
  exact run_fnk F hr hb hx I2 .nil rz q2
/-- _law_caught(action): what the call raises, kept; or None -/
def TTc (K : PySem.W.Frag) (CE : Addr) : (XK → Hp → VK → Prop) → Hp → VK → Prop := fun tl H Q =>
  tl (fun cls d H1 => ∃ b, PySem.W.exmOne K cls (.ref CE) = some b ∧ (b = true → ∀ a, H1 a = none → Q (.ref a) (upd H1 a (exh a cls d))) ∧ (b = false → False)) H (fun _ H1 => Q .non H1)
abbrev NC : List Str := ["action", "found", "error"]
theorem scC : FnScope NC ["action"] (defScope sCgt) := ⟨rfl, rfl, rfl, by decide +kernel, rfl, by decide +kernel, by decide +kernel⟩
theorem caught_gives {X : Cx} {CE g : Addr} {cdg : Value} {q : Str} (hme : X.mg "ClockError" = some (.ref CE)) : GivesTo X NC "_law_caught" (defScope sCgt) g cdg (defBody sCgt) "action" q (TTc X.K CE) := by
  intro f c' s H Q tl act hc h
  refine ⟨_, pss_cons (ps_set (i := 1) scC.nd rfl (Or.inl rfl) pe_non)
    (pss_cons (ps_try_keep (X := (cxOf C8.CX0 X.prog X.w X.K X.mg X.base NC "_law_caught" (defScope sCgt) g cdg X.A X.stack s H C8.E0).nox) (c := .ref CE) (i := 2)
      (tb := fun W D σ H => ∃ (Ech : XK) (Qc : VK), (∀ cls d σ' H', Ech cls d H' → W cls d σ' H') ∧ σ[0]? = some (some (.ref f)) ∧ H c' = some (CodeO c' q) ∧ tl Ech H Qc ∧ ∀ v H1, Qc v H1 → D.nx σ H1)
      rfl rfl rfl scC.nd rfl rfl ⟨rfl, rfl, .inl hme⟩ takes0 (fun W pn xe tk _ => ?_) (fun a oe cls d pn _ _ => pss_len (X := Cx.suite (cxOf C8.CX0 X.prog X.w X.K X.mg X.base NC "_law_caught" (defScope sCgt) g cdg X.A X.stack s H C8.E0).nox a ((a, oe) :: pn)) (n := 3) (pss_one (ps_set (i := 1) scC.nd rfl (Or.inl rfl) (pv 2))) rfl))
    (pss_one (ps_ret (pv 1)))), ?_⟩
  · refine ⟨fun pins s' σ H' D I h' => ?_⟩
    obtain ⟨Ech, Qc, hW, h1, h2, h3, h4⟩ := h'
    have hp := fun p1 p2 => act W pn xe Ech p1 p2 tk hW
    exact (pss_one (ps_expr (pe_weak (hp _ _)))).run pins s' σ H' D I ⟨Qc, ⟨h1, h2, h3⟩, h4⟩
  · refine ⟨_, _, ?_, rfl, hc, h, fun v H1 q => ⟨_, rfl, q⟩⟩
    rintro cls d σ' H' ⟨b, e1, e2, e3⟩
    refine ⟨b, e1, fun hb a ha hl => ?_, fun hb => (e3 hb).elim⟩
    match σ', hl with
    | [x, y, z], _ => exact ⟨_, rfl, _, rfl, e2 hb a ha⟩
    | [], hl => simp at hl
    | [_], hl => simp at hl
    | [_, _], hl => simp at hl
    | _ :: _ :: _ :: _ :: _, hl => simp at hl
end K3

set_option Elab.async false
set_option linter.all false
set_option pp.maxSteps 700
set_option maxRecDepth 100000
set_option maxHeartbeats 2000000
namespace K3
open PySem PySem.Spec PyProof.Rows L2
open TL (tl)
/-! ### any value that the law makes, as data -/
inductive Dt where
  | non | bl (b : Bool) | int (i : Int) | str (s : Str) | lst (l : List Dt) | tup (l : List Dt) | dic
mutual
inductive DV (g : Addr) (H : Hp) : V → Dt → Prop
  | non : DV g H .non .non
  | bl (b : Bool) : DV g H (.bl b) (.bl b)
  | int (i : Int) : DV g H (.int i) (.int i)
  | str {s : Str} (h : s.length ≤ 10000) : DV g H (.str s) (.str s)
  | lst {a : Addr} {xs : List V} {ds : List Dt} (e : H a = some (.lst xs)) (n : a ≠ g) (h : ds.length ≤ 1000) (r : DVs g H xs ds) : DV g H (.ref a) (.lst ds)
  | tup {a : Addr} {xs : List V} {ds : List Dt} (e : H a = some (.tup xs)) (h : ds.length ≤ 1000) (r : DVs g H xs ds) : DV g H (.ref a) (.tup ds)
  | dic {a : Addr} (e : H a = some (.dK [])) : DV g H (.ref a) .dic
inductive DVs (g : Addr) (H : Hp) : List V → List Dt → Prop
  | nil : DVs g H [] []
  | cons {v : V} {vs : List V} {d : Dt} {ds : List Dt} (h : DV g H v d) (r : DVs g H vs ds) : DVs g H (v :: vs) (d :: ds)
end
structure Kv (g : Addr) (H H' : Hp) : Prop where
  lst : ∀ b xs, H b = some (.lst xs) → b ≠ g → H' b = some (.lst xs)
  tup : ∀ b xs, H b = some (.tup xs) → H' b = some (.tup xs)
  dic : ∀ b, H b = some (.dK []) → H' b = some (.dK [])
theorem Kv.of {g : Addr} {H H' : Hp} (s : Same H H') : Kv g H H' := ⟨fun b xs e _ => s _ _ e, fun b xs e => s _ _ e, fun b e => s _ _ e⟩
theorem Kv.trans {g : Addr} {H H1 H2 : Hp} (a : Kv g H H1) (b : Kv g H1 H2) : Kv g H H2 := ⟨fun c xs e n => b.lst _ _ (a.lst _ _ e n) n, fun c xs e => b.tup _ _ (a.tup _ _ e), fun c e => b.dic _ (a.dic _ e)⟩
theorem Kv.kp {g d c : Addr} {H H' : Hp} {n : Nat} (S : StA H d g c n) (k : Kp d g H H') : Kv g H H' := by
  obtain ⟨r, t, gs, cs, S⟩ := S
  refine ⟨fun b xs e n => k _ _ e (fun z => ?_) n, fun b xs e => k _ _ e (fun z => ?_) (fun z => ?_), fun b e => k _ _ e (fun z => ?_) (fun z => ?_)⟩
  · rw [z, S.dk] at e
    cases e
  · rw [z, S.dk] at e
    cases e
  · rw [z, S.gl] at e
    cases e
  · rw [z, S.dk] at e
    have q := Option.some.inj e
    unfold StKV at q
    cases q
  · rw [z, S.gl] at e
    cases e
mutual
theorem DV.keep {g : Addr} {H H' : Hp} (k : Kv g H H') : ∀ {v : V} {d : Dt}, DV g H v d → DV g H' v d
  | _, _, .non => .non
  | _, _, .bl b => .bl b
  | _, _, .int i => .int i
  | _, _, .str h => .str h
  | _, _, .lst e n h r => .lst (k.lst _ _ e n) n h (DVs.keep k r)
  | _, _, .tup e h r => .tup (k.tup _ _ e) h (DVs.keep k r)
  | _, _, .dic e => .dic (k.dic _ e)
theorem DVs.keep {g : Addr} {H H' : Hp} (k : Kv g H H') : ∀ {v : List V} {d : List Dt}, DVs g H v d → DVs g H' v d
  | _, _, .nil => .nil
  | _, _, .cons h r => .cons (DV.keep k h) (DVs.keep k r)
end
theorem DVs.len {g : Addr} {H : Hp} : ∀ {xs : List V} {ds : List Dt}, DVs g H xs ds → xs.length = ds.length
  | _, _, .nil => rfl
  | _, _, .cons _ r => congrArg (· + 1) r.len
theorem DVs.at_ {g : Addr} {H : Hp} : ∀ {xs : List V} {ds : List Dt}, DVs g H xs ds → ∀ {i : Nat} {v : V}, xs[i]? = some v → ∃ d, ds[i]? = some d ∧ DV g H v d
  | _, _, .nil, _, _, e => by cases e
  | _, _, .cons h r, 0, _, e => by
    obtain rfl := Option.some.inj e
    exact ⟨_, rfl, h⟩
  | _, _, .cons h r, i + 1, _, e => r.at_ (i := i) e
theorem DVs.at' {g : Addr} {H : Hp} : ∀ {xs : List V} {ds : List Dt}, DVs g H xs ds → ∀ {i : Nat} {d : Dt}, ds[i]? = some d → ∃ v, xs[i]? = some v ∧ DV g H v d
  | _, _, .nil, _, _, e => by cases e
  | _, _, .cons h r, 0, _, e => by
    obtain rfl := Option.some.inj e
    exact ⟨_, rfl, h⟩
  | _, _, .cons h r, i + 1, _, e => r.at' (i := i) e
theorem DVs.app {g : Addr} {H : Hp} : ∀ {xs ys : List V} {ds es : List Dt}, DVs g H xs ds → DVs g H ys es → DVs g H (xs ++ ys) (ds ++ es)
  | _, _, _, _, .nil, q => q
  | _, _, _, _, .cons h r, q => .cons h (r.app q)
def isStr : Dt → Bool | .str _ => true | _ => false
def isTup : Dt → Bool | .tup _ => true | _ => false
def isBl : Dt → Bool | .bl _ => true | _ => false
def isInt : Dt → Bool | .int _ => true | _ => false
theorem DV.ty {K : PySem.W.Frag} {g : Addr} {H : Hp} {v : V} {d : Dt} (h : DV g H v d) : ∃ t, TyX K H v t ∧ PySem.W.kitOne K t (.type "str") = some (isStr d) ∧ PySem.W.kitOne K t (.type "tuple") = some (isTup d) ∧
    PySem.W.kitOne K t (.type "bool") = some (isBl d) ∧ PySem.W.kitOne K t (.type "int") = some (isInt d || isBl d) := by
  cases h with
  | non => exact ⟨_, .base .non, kit_ty (show kitB "NoneType" "str" = some false by decide +kernel), kit_ty (show kitB "NoneType" "tuple" = some false by decide +kernel), kit_ty (show kitB "NoneType" "bool" = some false by decide +kernel), kit_ty (show kitB "NoneType" "int" = some false by decide +kernel)⟩
  | bl b => exact ⟨_, .base (.bl _), kit_ty (show kitB "bool" "str" = some false by decide +kernel), kit_ty (show kitB "bool" "tuple" = some false by decide +kernel), kit_ty (show kitB "bool" "bool" = some true by decide +kernel), kit_ty (show kitB "bool" "int" = some true by decide +kernel)⟩
  | int i => exact ⟨_, .base (.int _), kit_ty (show kitB "int" "str" = some false by decide +kernel), kit_ty (show kitB "int" "tuple" = some false by decide +kernel), kit_ty (show kitB "int" "bool" = some false by decide +kernel), kit_ty (show kitB "int" "int" = some true by decide +kernel)⟩
  | str h => exact ⟨_, .base (.str _), kit_ty (show kitB "str" "str" = some true by decide +kernel), kit_ty (show kitB "str" "tuple" = some false by decide +kernel), kit_ty (show kitB "str" "bool" = some false by decide +kernel), kit_ty (show kitB "str" "int" = some false by decide +kernel)⟩
  | lst e n h r => exact ⟨_, .base (.lst e), kit_ty (show kitB "list" "str" = some false by decide +kernel), kit_ty (show kitB "list" "tuple" = some false by decide +kernel), kit_ty (show kitB "list" "bool" = some false by decide +kernel), kit_ty (show kitB "list" "int" = some false by decide +kernel)⟩
  | tup e h r => exact ⟨_, .base (.tup e), kit_ty (show kitB "tuple" "str" = some false by decide +kernel), kit_ty (show kitB "tuple" "tuple" = some true by decide +kernel), kit_ty (show kitB "tuple" "bool" = some false by decide +kernel), kit_ty (show kitB "tuple" "int" = some false by decide +kernel)⟩
  | dic e => exact ⟨_, .base (.dK e), kit_ty (show kitB "dict" "str" = some false by decide +kernel), kit_ty (show kitB "dict" "tuple" = some false by decide +kernel), kit_ty (show kitB "dict" "bool" = some false by decide +kernel), kit_ty (show kitB "dict" "int" = some false by decide +kernel)⟩
/-! ### any value == a text -/
section
open PySem.SeqAt
variable {s : Shared}
theorem dict_eq_str_no (l : Addr) (c : Value) (es : Array DictEntry) (n : Nat) (dd : Option Addr) (sl : Array (Option Value)) (b : Str) (u : PySem.Tok) :
    Meets (Builtin.«dict.__eq__» ⟨[.ref l, .str b u], []⟩) (fun _ R s => c = .type "dict" ∧ s.heap.get? l = some { cls := c, dict := dd, data := .dict es n, slots := sl } ∧ R (.ok (.ret .notImplemented)) s) :=
  .of_wp fun prog w A R s h => by obtain ⟨hp, g, d, tk, os⟩ := s; obtain ⟨rfl, ho, h⟩ := h; have f1 := PySem.F.sub_str_dict; wp_walk using wpAny_loadPart' ho; exact ⟨_, rfl, h⟩
theorem str_eq_dict_no (b : Str) (u : PySem.Tok) (l : Addr) (c : Value) (es : Array DictEntry) (n : Nat) (dd : Option Addr) (sl : Array (Option Value)) :
    Meets (Builtin.«str.__eq__» ⟨[.str b u, .ref l], []⟩) (fun _ R s => s.heap.get? l = some { cls := c, dict := dd, data := .dict es n, slots := sl } ∧ R (.ok (.ret .notImplemented)) s) :=
  .of_wp fun prog w A R s h => by obtain ⟨hp, g, d, tk, os⟩ := s; obtain ⟨ho, h⟩ := h; wp_walk using wpAny_loadPart' ho, wpAny_load ho; exact ⟨_, rfl, h⟩
theorem rc_dict_str {A : Around} {l : Addr} {c : Value} {es : Array DictEntry} {n : Nat} {dd : Option Addr} {sl : Array (Option Value)} (b : Str) (u : PySem.Tok) (hc : c = .type "dict") (ho : s.heap.get? l = some { cls := c, dict := dd, data := .dict es n, slots := sl }) (hu : A.units < cLine) :
    RcAt A s (.ref l) (.str b u) false := by
  intro prog w E Q h
  exact rc_eq_decline_or (k := false) ⟨_, ho, hc⟩ (typeIs_str s b u) (by decide) PySem.F.sub_str_dict PySem.F.slot_dict_eq PySem.F.slot_str_eq_refl
    (fun _ q => call_meets PySem.F.slot_dict_eq ⟨_, ho, hc⟩ PySem.F.entry_dict_eq (PySem.F.args_dict_eq_2 _ _) (dict_eq_str_no l c es n dd sl b u) ⟨hc, ho, q⟩)
    (fun _ q => call_meets PySem.F.slot_str_eq_refl (typeIs_str s b u) PySem.F.entry_str_eq (PySem.F.args_str_eq_2 _ _) (str_eq_dict_no b u l c es n dd sl) ⟨ho, q⟩)
    (fun _ q => wpAny_of_eq (rfl : isSame (.ref l) (.str b u) = pure false) q) (.inr hu) h
end
def eqS (d : Dt) (z : Str) : Bool := match d with
  | .str s => s == z
  | _ => false
section
variable {X : Cx}
theorem op_eqS (hu : X.A.units + 64 < cLine) : OpR X (compareOp .Eq) (fun x y H Q => ∃ (g : Addr) (d : Dt) (z : Str), y = .str z ∧ DV g H x d ∧ Q (.bl (eqS d z)) H) := by
  intro pins s σ H x y v u Q I rx ry h
  obtain ⟨g, d, z, rfl, hd, q⟩ := h
  obtain ⟨tz, rfl⟩ := (show ∃ t, u = Value.str z t from ry)
  have hu' : X.A.units < cLine := by omega
  cases hd with
  | non =>
    cases (show v = Value.none from rx)
    exact SeqAt.RcAt.none_str z tz _ _ _ _ (fin_bl I q rfl)
  | bl b =>
    cases (show v = Value.bool b from rx)
    exact SeqAt.RcAt.bool_str b z tz _ _ _ _ (fin_bl I q rfl)
  | int i =>
    obtain ⟨ti, rfl⟩ := (show ∃ t, v = Value.int i t from rx)
    exact SeqAt.RcAt.int_str i ti z tz _ _ _ _ (fin_bl I q rfl)
  | @str b hb =>
    obtain ⟨ti, rfl⟩ := (show ∃ t, v = Value.str b t from rx)
    exact SeqAt.RcAt.str_str b ti z tz _ _ _ _ (fin_bl I q rfl)
  | @lst a xs ds e n h r =>
    cases (show v = Value.ref a from rx)
    obtain ⟨us, r1, p1, _⟩ := I.list (SqL.of e : SqL X.K H a xs)
    exact SeqAt.RcAt.list_str z tz p1.isList hu' _ _ _ _ (fin_bl I q rfl)
  | @tup a xs ds e h r =>
    cases (show v = Value.ref a from rx)
    obtain ⟨us, r1, p1, _⟩ := I.tuple (SqT.of e : SqT X.K H a xs)
    exact SeqAt.RcAt.tuple_str z tz p1 hu' _ _ _ _ (fin_bl I q rfl)
  | @dic a e =>
    cases (show v = Value.ref a from rx)
    obtain ⟨_, _, _, _, o, es, ep, ho, hx, hd, _⟩ := (show ObjOk X.prog X.w H s.heap a (.dK []) from I.hok a _ e)
    obtain ⟨oc, od, odt, osl⟩ := o
    cases (show odt = .dict es ep from hd)
    exact rc_dict_str z tz hx.1 ho hu' _ _ _ _ (fin_bl I q rfl)
end
end K3

set_option Elab.async false
set_option linter.all false
set_option pp.maxSteps 700
set_option maxRecDepth 100000
set_option maxHeartbeats 2000000
namespace K3
open PySem PySem.Spec PyProof.Rows L2
open TL (tl)
abbrev sWhl : Stmt := top 6
abbrev sWin : Stmt := top 7
abbrev sTof : Stmt := top 8
abbrev sTin : Stmt := top 9
abbrev sDbl : Stmt := top 10
abbrev sNm : Stmt := top 20
abbrev sPl : Stmt := top 21
/-! ### what the document calls a name -/
def nameB : Dt → Bool | .str s => nameS s | _ => false
def plainS (s : Str) : Bool := s == "number" || s == "truth"
def plainB : Dt → Bool | .str s => plainS s | _ => false
def lenIs (n : Nat) : Dt → Bool | .tup l => decide (l.length = n) | _ => false
def lenIn (lo hi : Int) : Dt → Bool | .tup l => decide (lo ≤ (l.length : Int)) && decide ((l.length : Int) ≤ hi) | _ => false
def intIn (lo hi : Int) : Dt → Bool | .int i => decide (lo ≤ i) && decide (i ≤ hi) | _ => false
/-- a question about any value -/
def spAsk (f : Dt → Bool) : Sp := fun vs H Q _ => ∃ (g : Addr) (v : V) (d : Dt), vs = [v] ∧ DV g H v d ∧ ∀ H', Same H H' → Q (.bl (f d)) H'
def spWin : Sp := fun vs H Q _ => ∃ (g : Addr) (v : V) (d : Dt) (lo hi : Int), vs = [v, .int lo, .int hi] ∧ DV g H v d ∧ ∀ H', Same H H' → Q (.bl (intIn lo hi d)) H'
def spTof : Sp := fun vs H Q _ => ∃ (g : Addr) (v : V) (d : Dt) (n : Nat), vs = [v, .int (n : Nat)] ∧ DV g H v d ∧ ∀ H', Same H H' → Q (.bl (lenIs n d)) H'
def spTin : Sp := fun vs H Q _ => ∃ (g : Addr) (v : V) (d : Dt) (lo hi : Int), vs = [v, .int lo, .int hi] ∧ DV g H v d ∧ ∀ H', Same H H' → Q (.bl (lenIn lo hi d)) H'
def spDbl (K : PySem.W.Frag) : Sp := fun vs H Q _ => ∃ (a : Addr) (xs : List Str), vs = [.ref a] ∧ SqL K H a (xs.map V.str) ∧ xs.length < 1000 ∧ ∀ H', Same H H' → Q (.bl (!decide xs.Nodup)) H'
structure MgP (K : PySem.W.Frag) (mg : Str → Option Value) (fWhl : Addr) : Prop where
  whl : mg "is_whole" = some (.ref fWhl)
  kwhl : PySem.W.keepIn K (.ref fWhl) = true
  lett : ∃ t, mg "LETTERS" = some (.str L26 t)
  digt : ∃ t, mg "DIGITS" = some (.str D10 t)
  resv : ∃ a, mg "RESERVED" = some (.ref a) ∧ ∀ H, SqT K H a (wds.map V.str)
  msig : ∃ t, mg "MOST_SIGNS" = some (.int 8 t)
  isi : mg "isinstance" = none
  len : mg "len" = none
  str : mg "str" = none
  int : mg "int" = none
  bol : mg "bool" = none
  tpl : mg "tuple" = none
  all : mg "all" = none
  set : mg "set" = none
section
variable {P : Program} {w : World} {K : PySem.W.Frag} {mg : Str → Option Value} {base : Heap}
theorem scWhl : FnScope ["value"] ["value"] (defScope sWhl) := ⟨rfl, rfl, rfl, by decide +kernel, rfl, by decide +kernel, by decide +kernel⟩
theorem ok_whl {f fW : Addr} {fd : FuncData} (F : Fun K "is_whole" "is_whole" sWhl f fd) (T : MgP K mg fW) : FnOk P w K mg base CX0 1 f fd ["value"] (spAsk isInt) := by
  refine F.ok scWhl (fun vs H Q E h => ?_) (fun cdv A outer s H vs Q E hr h => ?_)
  · obtain ⟨g, v, d, rfl, _⟩ := h
    rfl
  · obtain ⟨g, v, d, rfl, hd, k⟩ := h
    obtain ⟨t, ht, k1, k2, k3, k4⟩ := hd.ty (K := K)
    refine ⟨_, pss_one (ps_ret (pe_and (pe_callB call_isi (by rfl) T.isi (by decide +kernel) (pa_cons (pv 0) (pa_cons (pe_bltn (v := .ty "int") (by rfl) T.int boot_int rfl) pa_nil)))
      (pe_one (pe_not (pe_callB call_isi (by rfl) T.isi (by decide +kernel) (pa_cons (pv 0) (pa_cons (pe_bltn (v := .ty "bool") (by rfl) T.bol boot_bool rfl) pa_nil))))))), ?_⟩
    refine ⟨_, rfl, _, _, _, _, _, rfl, .ty "int", ht, k4, _, rfl, ?_⟩
    cases d with
    | int i => exact iteT ⟨_, rfl, _, _, _, _, _, rfl, .ty "bool", ht, k3, _, rfl, k H (Same.refl H)⟩
    | bl b => exact iteT ⟨_, rfl, _, _, _, _, _, rfl, .ty "bool", ht, k3, _, rfl, k H (Same.refl H)⟩
    | non => exact iteF (k H (Same.refl H))
    | str s => exact iteF (k H (Same.refl H))
    | lst l => exact iteF (k H (Same.refl H))
    | tup l => exact iteF (k H (Same.refl H))
    | dic => exact iteF (k H (Same.refl H))
theorem scWin : FnScope ["value", "low", "high"] ["value", "low", "high"] (defScope sWin) := ⟨rfl, rfl, rfl, by decide +kernel, rfl, by decide +kernel, by decide +kernel⟩
theorem ok_win {f fW : Addr} {fd fdW : FuncData} (F : Fun K "is_within" "is_within" sWin f fd) (T : MgP K mg fW) (FW : Fun K "is_whole" "is_whole" sWhl fW fdW) (bW : L2.Binds K fdW ["value"] []) : FnOk P w K mg base CX0 2 f fd ["value", "low", "high"] spWin := by
  have GW : FnOk P w K mg base CX0 1 fW fdW ["value"] (spAsk isInt) := ok_whl FW T
  refine F.ok scWin (fun vs H Q E h => ?_) (fun cdv A outer s H vs Q E hr h => ?_)
  · obtain ⟨g, v, d, lo, hi, rfl, _⟩ := h
    rfl
  · obtain ⟨g, v, d, lo, hi, rfl, hd, k⟩ := h
    refine ⟨_, pss_one (ps_ret (pe_and (pe_call GW hr (by rfl) T.whl T.kwhl bW .nil pass0 (pa_cons (pv 0) pa_nil)) (pe_one (pe_chain op_le op_le (pv 1) (pv 0) (pv 2))))), ?_⟩
    refine ⟨_, rfl, g, v, d, rfl, hd, fun H' s => ⟨_, rfl, ?_⟩⟩
    cases hd with
    | int i =>
      refine iteT ⟨_, rfl, _, rfl, _, _, rfl, rfl, _, rfl, ?_⟩
      have e : intIn lo hi (.int i) = (decide (lo ≤ i) && decide (i ≤ hi)) := rfl
      by_cases h1 : lo ≤ i
      · rw [decide_eq_true h1] at e ⊢
        refine iteT ⟨_, rfl, _, _, rfl, rfl, ?_⟩
        have q := k H' s
        rw [e] at q
        exact q
      · rw [decide_eq_false h1] at e ⊢
        refine iteF ?_
        have q := k H' s
        rw [e] at q
        exact q
    | bl b => exact iteF (k H' s)
    | non => exact iteF (k H' s)
    | str z => exact iteF (k H' s)
    | lst _ _ _ _ => exact iteF (k H' s)
    | tup _ _ _ => exact iteF (k H' s)
    | dic _ => exact iteF (k H' s)
theorem scTof : FnScope ["value", "many"] ["value", "many"] (defScope sTof) := ⟨rfl, rfl, rfl, by decide +kernel, rfl, by decide +kernel, by decide +kernel⟩
theorem ok_tof {f fW : Addr} {fd : FuncData} (F : Fun K "is_tuple_of" "is_tuple_of" sTof f fd) (T : MgP K mg fW) : FnOk P w K mg base CX0 1 f fd ["value", "many"] spTof := by
  refine F.ok scTof (fun vs H Q E h => ?_) (fun cdv A outer s H vs Q E hr h => ?_)
  · obtain ⟨g, v, d, n, rfl, _⟩ := h
    rfl
  · obtain ⟨g, v, d, n, rfl, hd, k⟩ := h
    obtain ⟨t, ht, k1, k2, k3, k4⟩ := hd.ty (K := K)
    refine ⟨_, pss_one (ps_ret (pe_and (pe_callB call_isi (by rfl) T.isi (by decide +kernel) (pa_cons (pv 0) (pa_cons (pe_bltn (v := .ty "tuple") (by rfl) T.tpl boot_tuple rfl) pa_nil)))
      (pe_one (pe_cmpR op_eq (pe_callB call_len_seq (by rfl) T.len PySem.boot_len (pa_cons (pv 0) pa_nil)) (pv 1) (nomark _))))), ?_⟩
    refine ⟨_, rfl, _, _, _, _, _, rfl, .ty "tuple", ht, k2, _, rfl, ?_⟩
    cases hd with
    | @tup a xs ds e h r =>
      refine iteT ⟨_, rfl, a, xs, rfl, .inr (SqT.of e), _, rfl, rfl, ?_⟩
      have q := k H (Same.refl H)
      have e2 : decide (V.int (xs.length : Nat) = V.int (n : Nat)) = lenIs n (.tup ds) := by
        rw [r.len]
        show _ = decide (ds.length = n)
        rw [decide_eq_decide]
        exact ⟨fun z => by injection z with z; omega, fun z => by rw [z]⟩
      rw [e2]
      exact q
    | int i => exact iteF (k H (Same.refl H))
    | bl b => exact iteF (k H (Same.refl H))
    | non => exact iteF (k H (Same.refl H))
    | str z => exact iteF (k H (Same.refl H))
    | lst _ _ _ _ => exact iteF (k H (Same.refl H))
    | dic _ => exact iteF (k H (Same.refl H))
theorem scTin : FnScope ["value", "low", "high"] ["value", "low", "high"] (defScope sTin) := ⟨rfl, rfl, rfl, by decide +kernel, rfl, by decide +kernel, by decide +kernel⟩
theorem ok_tin {f fW : Addr} {fd : FuncData} (F : Fun K "is_tuple_within" "is_tuple_within" sTin f fd) (T : MgP K mg fW) : FnOk P w K mg base CX0 1 f fd ["value", "low", "high"] spTin := by
  refine F.ok scTin (fun vs H Q E h => ?_) (fun cdv A outer s H vs Q E hr h => ?_)
  · obtain ⟨g, v, d, lo, hi, rfl, _⟩ := h
    rfl
  · obtain ⟨g, v, d, lo, hi, rfl, hd, k⟩ := h
    obtain ⟨t, ht, k1, k2, k3, k4⟩ := hd.ty (K := K)
    refine ⟨_, pss_one (ps_ret (pe_and (pe_callB call_isi (by rfl) T.isi (by decide +kernel) (pa_cons (pv 0) (pa_cons (pe_bltn (v := .ty "tuple") (by rfl) T.tpl boot_tuple rfl) pa_nil)))
      (pe_one (pe_chain op_le op_le (pv 1) (pe_callB call_len_seq (by rfl) T.len PySem.boot_len (pa_cons (pv 0) pa_nil)) (pv 2))))), ?_⟩
    refine ⟨_, rfl, _, _, _, _, _, rfl, .ty "tuple", ht, k2, _, rfl, ?_⟩
    cases hd with
    | @tup a xs ds e h r =>
      refine iteT ⟨_, rfl, _, rfl, a, xs, rfl, .inr (SqT.of e), _, _, rfl, rfl, _, rfl, ?_⟩
      have q := k H (Same.refl H)
      have e2 : lenIn lo hi (.tup ds) = (decide (lo ≤ (xs.length : Int)) && decide ((xs.length : Int) ≤ hi)) := by
        rw [r.len]
        rfl
      rw [e2] at q
      by_cases h1 : lo ≤ (xs.length : Int)
      · rw [decide_eq_true h1] at q ⊢
        exact iteT ⟨_, rfl, _, _, rfl, rfl, q⟩
      · rw [decide_eq_false h1] at q ⊢
        exact iteF q
    | int i => exact iteF (k H (Same.refl H))
    | bl b => exact iteF (k H (Same.refl H))
    | non => exact iteF (k H (Same.refl H))
    | str z => exact iteF (k H (Same.refl H))
    | lst _ _ _ _ => exact iteF (k H (Same.refl H))
    | dic _ => exact iteF (k H (Same.refl H))
theorem scDbl : FnScope ["rows"] ["rows"] (defScope sDbl) := ⟨rfl, rfl, rfl, by decide +kernel, rfl, by decide +kernel, by decide +kernel⟩
theorem ok_dbl {f fW : Addr} {fd : FuncData} (F : Fun K "has_doubles" "has_doubles" sDbl f fd) (T : MgP K mg fW) : FnOk P w K mg base CX0 1 f fd ["rows"] (spDbl K) := by
  refine F.ok scDbl (fun vs H Q E h => ?_) (fun cdv A outer s H vs Q E hr h => ?_)
  · obtain ⟨a, xs, rfl, _⟩ := h
    rfl
  · obtain ⟨a, xs, rfl, hS, few, k⟩ := h
    refine ⟨_, pss_one (ps_ret (pe_cmpR op_lt (pe_lenTxts rfl (by rfl) T.len (by rfl) T.set (pv 0)) (pe_callB call_len_seq (by rfl) T.len PySem.boot_len (pa_cons (pv 0) pa_nil)) (nomark _))), ?_⟩
    refine ⟨_, rfl, a, xs, rfl, hS, few, _, rfl, a, _, rfl, .inl hS, _, _, rfl, rfl, ?_⟩
    have q := k H (Same.refl H)
    rw [← met_dup xs] at q
    have e : decide (((met xs).length : Int) < ((xs.map V.str).length : Int)) = decide ((met xs).length < xs.length) := by
      rw [List.length_map, decide_eq_decide]
      omega
    show Q (.bl (decide (((met xs).length : Int) < ((xs.map V.str).length : Int)))) H
    rw [e]
    exact q
theorem scPl : FnScope ["value"] ["value"] (defScope sPl) := ⟨rfl, rfl, rfl, by decide +kernel, rfl, by decide +kernel, by decide +kernel⟩
theorem two_str {s a b : Str} : inV (.str s) [.str a, .str b] = (s == a || s == b) := by
  show ((a == s) || ((b == s) || false)) = _
  rw [Bool.or_false, Bool.beq_comm (a := a), Bool.beq_comm (a := b)]
theorem ok_pl {f fW : Addr} {fd : FuncData} (F : Fun K "is_plain" "is_plain" sPl f fd) (T : MgP K mg fW) : FnOk P w K mg base CX0 1 f fd ["value"] (spAsk plainB) := by
  refine F.ok scPl (fun vs H Q E h => ?_) (fun cdv A outer s H vs Q E hr h => ?_)
  · obtain ⟨g, v, d, rfl, _⟩ := h
    rfl
  · obtain ⟨g, v, d, rfl, hd, k⟩ := h
    obtain ⟨t, ht, k1, k2, k3, k4⟩ := hd.ty (K := K)
    refine ⟨_, pss_one (ps_ret (pe_and (pe_callB call_isi (by rfl) T.isi (by decide +kernel) (pa_cons (pv 0) (pa_cons (pe_bltn (v := .ty "str") (by rfl) T.str boot_str rfl) pa_nil)))
      (pe_one (pe_cmpR op_in_seq (pv 0) (pe_tup (pa_cons pe_str (pa_cons pe_str pa_nil))) (by rfl))))), ?_⟩
    refine ⟨_, rfl, _, _, _, _, _, rfl, .ty "str", ht, k1, _, rfl, ?_⟩
    cases hd with
    | @str z h =>
      refine iteT ⟨_, rfl, (by show 2 ≤ sizeLine; decide), fun p hp => ⟨p, _, rfl, .inr (SqT.of upd_same), rfl, rfl, ?_⟩⟩
      have q := k _ (same_new (o := .tup [V.str "number", V.str "truth"]) hp)
      have e : inV (.str z) [.str "number", .str "truth"] = plainB (.str z) := two_str
      rw [← e] at q
      exact q
    | tup _ _ _ => exact iteF (k H (Same.refl H))
    | int i => exact iteF (k H (Same.refl H))
    | bl b => exact iteF (k H (Same.refl H))
    | non => exact iteF (k H (Same.refl H))
    | lst _ _ _ _ => exact iteF (k H (Same.refl H))
    | dic _ => exact iteF (k H (Same.refl H))
end
end K3

set_option Elab.async false
set_option linter.all false
set_option pp.maxSteps 700
set_option maxRecDepth 100000
set_option maxHeartbeats 2000000
namespace K3
open PySem PySem.Spec PyProof.Rows L2
open TL (tl)
section
variable {P : Program} {w : World} {K : PySem.W.Frag} {mg : Str → Option Value} {base : Heap}
theorem scNm : FnScope ["value", "sign"] ["value"] (defScope sNm) := ⟨rfl, rfl, rfl, by decide +kernel, rfl, by decide +kernel, by decide +kernel⟩
theorem first_sign {s : Str} (h : 1 ≤ s.length) : atI s.cps.toList 0 = some ((tl s).getD 0 0) := by
  rw [TL.len_tl] at h
  have e : (tl s)[0]? = some ((tl s).getD 0 0) := by
    rw [List.getD_eq_getElem?_getD, List.getElem?_eq_getElem (by omega)]
    rfl
  exact atI_nat (j := 0) e
theorem all_take {l : List Nat} {f : Nat → Bool} : (l.map f).all id = l.all f := by
  induction l with
  | nil => rfl
  | cons x l ih => rw [List.map_cons, List.all_cons, List.all_cons, ih]; rfl
theorem ok_nm {f fW : Addr} {fd : FuncData} (F : Fun K "is_name" "is_name" sNm f fd) (T : MgP K mg fW) : FnOk P w K mg base CX0 1 f fd ["value"] (spAsk nameB) := by
  refine F.ok scNm (fun vs H Q E h => ?_) (fun cdv A outer s H vs Q E hr h => ?_)
  · obtain ⟨g, v, d, rfl, _⟩ := h
    rfl
  · obtain ⟨g, v, d, rfl, hd, k⟩ := h
    obtain ⟨t, ht, k1, k2, k3, k4⟩ := hd.ty (K := K)
    obtain ⟨tL, eL⟩ := T.lett
    obtain ⟨tD, eD⟩ := T.digt
    obtain ⟨tS, eS⟩ := T.msig
    obtain ⟨aR, eR, hR⟩ := T.resv
    refine ⟨_, pss_cons (ps_if (PW.pt (pw_or (pt_not (pt_val (pe_callB call_isi (by rfl) T.isi (by decide +kernel) (pa_cons (pv 0) (pa_cons (pe_bltn (v := .ty "str") (by rfl) T.str boot_str rfl) pa_nil)))))
        (pw_or (pt_not (pt_chain op_le op_le pe_int (pe_callB call_len_str (by rfl) T.len PySem.boot_len (pa_cons (pv 0) pa_nil)) (pe_glob (v := .int 8) (by rfl) eS ⟨_, rfl⟩)))
          (pw_or1 (pt_cmpR op_notIn_sign (pe_ix ix_str (pv 0) pe_int (fun _ _ => rfl)) (pe_glob (v := .str L26) (by rfl) eL ⟨_, rfl⟩) (by rfl))))))
        (pss_one (ps_ret pe_bl)) pss_nil)
      (pss_one (ps_ret (pe_and (pe_callB (cr_all rfl) (by rfl) T.all (by decide +kernel) (pa_cons (pe_lc (own := [("sign", 1)]) (g := gName 1) (tt := tYes) (by rfl) scNm.nd (pi_str (pv 0))
          (blkOk_by (own := [("sign", 1)]) (N := ["value", "sign"]) (sc := defScope sNm) (by decide +kernel)) (fun _ _ _ _ _ => pg_name (i := 1) scNm.nd rfl (Or.inl rfl)) (fun _ _ _ _ _ => pts_nil)
          (fun _ _ _ _ _ => pe_or (pe_cmpR op_in_sign (pv 1) (pe_glob (v := .str L26) (by rfl) eL ⟨_, rfl⟩) (by rfl)) (pe_one (pe_cmpR op_in_sign (pv 1) (pe_glob (v := .str D10) (by rfl) eD ⟨_, rfl⟩) (by rfl))))) pa_nil))
        (pe_one (pe_cmpR op_notIn_seq (pv 0) (pe_glob (v := .ref aR) (by rfl) eR rfl) (by rfl)))))), ?_⟩
    refine ⟨_, rfl, _, _, _, _, _, rfl, .ty "str", ht, k1, _, rfl, ?_⟩
    cases hd with
    | @str z hz =>
      refine iteF ?_
      have zs : z.length ≤ sizeLine := by rw [sizeLine_eq]; omega
      refine ⟨_, rfl, z, rfl, zs, _, _, rfl, rfl, _, rfl, ?_⟩
      have q := k
      by_cases h1 : 1 ≤ z.length
      · refine ifT (decide_eq_true (by omega)) ?_
        refine ⟨_, _, rfl, rfl, _, rfl, ?_⟩
        by_cases h2 : z.length ≤ 8
        · rw [decide_eq_true (show (z.length : Int) ≤ 8 by omega)]
          refine iteF ?_
          refine ⟨_, rfl, z, 0, _, rfl, rfl, zs, first_sign h1, _, _, rfl, rfl, _, rfl, ?_⟩
          have e0 : nameS z = (isLet ((tl z).getD 0 0) && ((tl z).all isSgn && !decide (z ∈ wds))) := by
            unfold nameS
            rw [decide_eq_true h1, decide_eq_true h2]
            rfl
          cases h3 : isLet ((tl z).getD 0 0) with
          | false =>
            refine ifT (by show (!isLet _) = true; rw [h3]; rfl) ?_
            rw [h3] at e0
            have q1 := q H (Same.refl H)
            rw [show nameB (.str z) = false from e0] at q1
            exact q1
          | true =>
            refine ifF (by show (!isLet _) = false; rw [h3]; rfl) ?_
            rw [h3] at e0
            -- all(..)
            refine ⟨_, rfl, z, rfl, fun D hD => lc_it walk_str (fun i H' => H' D = some (.lst (((tl z).take i).map (fun c => V.bl (isSgn c)))) ∧ Same H H') ⟨upd_same, same_new hD⟩ (fun _ _ _ _ => True.intro) ?_ ?_⟩
            · rintro i x H1 H1' hi ⟨h4, s1⟩ ⟨rfl, c, hc, rfl⟩
              refine ⟨rfl, ?_⟩
              have fin : ∀ b, b = isSgn c → ∃ acc, H1' D = some (.lst acc) ∧ acc.length < sizeLine ∧ (upd H1' D (.lst (acc ++ [V.bl b]))) D = some (.lst (((tl z).take (i + 1)).map (fun c => V.bl (isSgn c)))) ∧ Same H (upd H1' D (.lst (acc ++ [V.bl b]))) := by
                intro b hb
                refine ⟨_, h4, ?_, ?_, ?_⟩
                · have := TL.len_tl z
                  rw [List.length_map, List.length_take, sizeLine_eq]
                  omega
                · rw [upd_same, hb]
                  have hc' : (tl z)[i]? = some c := by
                    rw [← hc, ← Array.getElem?_toList]
                  rw [List.take_succ, hc', List.map_append]
                  rfl
                · intro b' o e
                  rw [upd_ne (ne_of_none e hD)]
                  exact s1 _ _ e
              refine ⟨_, rfl, c, _, rfl, rfl, _, rfl, ?_⟩
              cases h5 : isLet c with
              | true =>
                refine ifT h5 ?_
                exact fin true (by unfold isSgn; rw [h5]; rfl)
              | false =>
                refine ifF h5 ?_
                refine ⟨_, rfl, c, _, rfl, rfl, ?_⟩
                exact fin _ (by unfold isSgn; rw [h5]; rfl)
            · rintro H1 ⟨h4, s1⟩
              have e1 : (tl z).take z.cps.size = tl z := by
                have : (tl z).length = z.cps.size := Array.length_toList
                rw [← this, List.take_length]
              rw [e1] at h4
              refine ⟨D, (tl z).map isSgn, rfl, SqL.of (by rw [List.map_map]; exact h4), _, rfl, ?_⟩
              rw [all_take]
              have q1 := q H1 s1
              rw [show nameB (.str z) = (true && ((tl z).all isSgn && !decide (z ∈ wds))) from e0] at q1
              cases h6 : (tl z).all isSgn with
              | false =>
                rw [h6] at q1
                exact iteF q1
              | true =>
                rw [h6] at q1
                refine iteT ⟨_, rfl, aR, _, rfl, .inr (hR _), rfl, wds_flat, ?_⟩
                show Q (.bl (!inV (.str z) (wds.map V.str))) H1
                rw [inV_str]
                exact q1
        · rw [decide_eq_false (show ¬ (z.length : Int) ≤ 8 by omega)]
          refine iteT ?_
          have q1 := q H (Same.refl H)
          have e0 : nameB (.str z) = false := by
            show nameS z = false
            unfold nameS
            rw [decide_eq_false h2, Bool.and_false]
            rfl
          rw [e0] at q1
          exact q1
      · refine ifF (decide_eq_false (by omega)) ?_
        refine ⟨_, rfl, iteT ?_⟩
        have q1 := q H (Same.refl H)
        have e0 : nameB (.str z) = false := by
          show nameS z = false
          unfold nameS
          rw [decide_eq_false h1]
          rfl
        rw [e0] at q1
        exact q1
    | tup _ _ _ => exact iteT (k H (Same.refl H))
    | int i => exact iteT (k H (Same.refl H))
    | bl b => exact iteT (k H (Same.refl H))
    | non => exact iteT (k H (Same.refl H))
    | lst _ _ _ _ => exact iteT (k H (Same.refl H))
    | dic _ => exact iteT (k H (Same.refl H))
end
end K3

set_option Elab.async false
set_option linter.all false
set_option pp.maxSteps 700
set_option maxRecDepth 100000
set_option maxHeartbeats 2000000
namespace K3
open PySem PySem.Spec PyProof.Rows L2
open TL (tl)
abbrev sKd : Stmt := top 22
abbrev sFm : Stmt := top 23
abbrev sFl : Stmt := top 24
abbrev sWc : Stmt := top 25
/-! ### what the document calls a kind -/
def pairF (f : Dt → Bool) : Dt → Bool
  | .tup [x, y] => nameB x && f y
  | _ => false
def nmOf : Dt → Str
  | .tup [.str s, _] => s
  | _ => ""
def fieldsF (f : Dt → Bool) : Dt → Bool
  | .tup l => (decide (1 ≤ (l.length : Int)) && decide ((l.length : Int) ≤ 6)) && (l.all (pairF f) && decide (l.map nmOf).Nodup)
  | _ => false
def form2 (fl fm : Dt → Bool) : List Dt → Bool
  | [x, y] => eqS x "record" && fl y
  | [x, y, z] => eqS x "row" && (intIn 1 64 y && fm z)
  | _ => false
def formed : Nat → Dt → Bool
  | _, .str s => plainS s
  | n + 2, .tup l => form2 (fieldsF (formed (n + 1))) (formed (n + 1)) l
  | _, _ => false
def sndW (f : Dt → Int) : Dt → Int
  | .tup [_, z] => f z
  | _ => 0
def sumW (f : Dt → Int) : Dt → Int
  | .tup l => (l.map (sndW f)).sum
  | _ => 0
def intOf : Dt → Int
  | .int i => i
  | _ => 0
def words2 (w : Dt → Int) : List Dt → Int
  | [_, y] => sumW w y
  | [_, y, z] => intOf y * w z
  | _ => 0
def wordsN : Nat → Dt → Int
  | n + 2, .tup l => words2 (wordsN (n + 1)) l
  | _, _ => 1
theorem formed_one (l : List Dt) : formed 1 (.tup l) = false := rfl
theorem formed_two (n : Nat) (l : List Dt) : formed (n + 2) (.tup l) = form2 (fieldsF (formed (n + 1))) (formed (n + 1)) l := rfl
theorem formed_str (n : Nat) (s : Str) : formed n (.str s) = plainS s := by
  cases n with
  | zero => rfl
  | succ n => cases n <;> rfl
theorem words_two (n : Nat) (l : List Dt) : wordsN (n + 2) (.tup l) = words2 (wordsN (n + 1)) l := rfl
theorem words_str (n : Nat) (s : Str) : wordsN n (.str s) = 1 := by
  cases n with
  | zero => rfl
  | succ n => cases n <;> rfl
theorem formed_other {n : Nat} {d : Dt} (h1 : isStr d = false) (h2 : isTup d = false) : formed n d = false := by
  cases d with
  | str s => cases h1
  | tup l => cases h2
  | _ => cases n with
    | zero => rfl
    | succ n => cases n <;> rfl
theorem intIn_of {lo hi : Int} {d : Dt} (h : intIn lo hi d = true) : ∃ i, d = .int i ∧ lo ≤ i ∧ i ≤ hi := by
  cases d with
  | int i =>
    have h : (decide (lo ≤ i) && decide (i ≤ hi)) = true := h
    rw [Bool.and_eq_true] at h
    exact ⟨i, rfl, of_decide_eq_true h.1, of_decide_eq_true h.2⟩
  | _ => cases h
theorem eqS_of {d : Dt} {z : Str} (h : eqS d z = true) : d = .str z := by
  cases d with
  | str s => exact congrArg Dt.str (eq_of_beq h)
  | _ => cases h
theorem nameB_of {d : Dt} (h : nameB d = true) : ∃ s, d = .str s ∧ nameS s = true := by
  cases d with
  | str s => exact ⟨s, rfl, h⟩
  | _ => cases h
theorem pairF_of {f : Dt → Bool} {d : Dt} (h : pairF f d = true) : ∃ s y, d = .tup [.str s, y] ∧ nameS s = true ∧ f y = true := by
  unfold pairF at h
  split at h
  · rename_i x y
    rw [Bool.and_eq_true] at h
    obtain ⟨s, rfl, hs⟩ := nameB_of h.1
    exact ⟨s, y, rfl, hs, h.2⟩
  · cases h
theorem fieldsF_of {f : Dt → Bool} {d : Dt} (h : fieldsF f d = true) : ∃ l, d = .tup l ∧ 1 ≤ l.length ∧ l.length ≤ 6 ∧ (∀ p ∈ l, pairF f p = true) ∧ (l.map nmOf).Nodup := by
  cases d with
  | tup l =>
    have h : ((decide (1 ≤ (l.length : Int)) && decide ((l.length : Int) ≤ 6)) && (l.all (pairF f) && decide (l.map nmOf).Nodup)) = true := h
    simp only [Bool.and_eq_true, decide_eq_true_eq, List.all_eq_true] at h
    exact ⟨l, rfl, by omega, by omega, h.2.1, h.2.2⟩
  | _ => cases h
/-- the three forms of a kind -/
theorem formed_cases {n : Nat} {d : Dt} (h : formed n d = true) : (∃ s, d = .str s ∧ plainS s = true) ∨ ∃ m, n = m + 2 ∧
    ((∃ l, d = .tup [.str "record", .tup l] ∧ 1 ≤ l.length ∧ l.length ≤ 6 ∧ (∀ p ∈ l, pairF (formed (m + 1)) p = true) ∧ (l.map nmOf).Nodup) ∨ ∃ i z, d = .tup [.str "row", .int i, z] ∧ 1 ≤ i ∧ i ≤ 64 ∧ formed (m + 1) z = true) := by
  cases d with
  | str s => exact .inl ⟨s, rfl, by rw [formed_str] at h; exact h⟩
  | tup l =>
    match n, h with
    | 0, h => cases h
    | 1, h => cases h
    | m + 2, h =>
      refine .inr ⟨m, rfl, ?_⟩
      rw [formed_two] at h
      unfold form2 at h
      split at h
      · rename_i x y hh
        rw [Bool.and_eq_true] at h
        obtain rfl := eqS_of h.1
        obtain ⟨l, rfl, h1, h2, h3, h4⟩ := fieldsF_of h.2
        exact .inl ⟨l, rfl, h1, h2, h3, h4⟩
      · rename_i x y z hh
        rw [Bool.and_eq_true, Bool.and_eq_true] at h
        obtain rfl := eqS_of h.1
        obtain ⟨i, rfl, h1, h2⟩ := intIn_of h.2.1
        exact .inr ⟨i, z, rfl, h1, h2, h.2.2⟩
      · cases h
  | _ => rw [formed_other rfl rfl] at h; cases h
theorem sum_le {f : Dt → Int} {B : Int} : ∀ l : List Dt, (∀ x ∈ l, 1 ≤ f x ∧ f x ≤ B) → (l.length : Int) ≤ (l.map f).sum ∧ (l.map f).sum ≤ (l.length : Int) * B
  | [], _ => ⟨by simp, by simp⟩
  | x :: l, h => by
    obtain ⟨h1, h2⟩ := sum_le l fun y hy => h y (List.mem_cons_of_mem _ hy)
    obtain ⟨h3, h4⟩ := h x List.mem_cons_self
    simp only [List.map_cons, List.sum_cons, List.length_cons]
    have e : ((l.length + 1 : Nat) : Int) * B = (l.length : Int) * B + B := by
      rw [Int.natCast_add, Int.add_mul]
      simp
    omega
theorem words_bound : ∀ (n : Nat) (d : Dt), formed n d = true → 1 ≤ wordsN n d ∧ wordsN n d ≤ 64 ^ n
  | n, d, h => by
    rcases formed_cases h with ⟨s, rfl, _⟩ | ⟨m, rfl, ⟨l, rfl, h1, h2, h3, _⟩ | ⟨i, z, rfl, h1, h2, h3⟩⟩
    · rw [words_str]
      refine ⟨by decide, ?_⟩
      have : (0 : Int) < 64 ^ n := Int.pow_pos (by decide)
      omega
    · rw [words_two]
      show 1 ≤ (l.map (sndW (wordsN (m + 1)))).sum ∧ (l.map (sndW (wordsN (m + 1)))).sum ≤ _
      obtain ⟨q1, q2⟩ := sum_le (f := sndW (wordsN (m + 1))) (B := 64 ^ (m + 1)) l fun p hp => by
        obtain ⟨s, y, rfl, _, hy⟩ := pairF_of (h3 p hp)
        exact words_bound (m + 1) y hy
      have e : (64 : Int) ^ (m + 2) = 64 ^ (m + 1) * 64 := Int.pow_succ ..
      have p : (0 : Int) < 64 ^ (m + 1) := Int.pow_pos (by decide)
      have q3 : (l.length : Int) * 64 ^ (m + 1) ≤ 64 * 64 ^ (m + 1) := Int.mul_le_mul_of_nonneg_right (by omega) (by omega)
      omega
    · rw [words_two]
      show 1 ≤ i * wordsN (m + 1) z ∧ i * wordsN (m + 1) z ≤ _
      obtain ⟨q1, q2⟩ := words_bound (m + 1) z h3
      have e : (64 : Int) ^ (m + 2) = 64 ^ (m + 1) * 64 := Int.pow_succ ..
      have p : (0 : Int) < 64 ^ (m + 1) := Int.pow_pos (by decide)
      have q3 : 1 * 1 ≤ i * wordsN (m + 1) z := Int.mul_le_mul h1 q1 (by decide) (by omega)
      have q4 : i * wordsN (m + 1) z ≤ 64 * 64 ^ (m + 1) := Int.mul_le_mul h2 q2 (by omega) (by decide)
      omega
  termination_by n => n
  decreasing_by all_goals omega
end K3

set_option Elab.async false
set_option linter.all false
set_option pp.maxSteps 700
set_option maxRecDepth 100000
set_option maxHeartbeats 2000000
namespace K3
open PySem PySem.Spec PyProof.Rows L2
open TL (tl)
section
variable {g : Addr} {H : Hp} {v : V}
theorem DV.str_inv {s : Str} (h : DV g H v (.str s)) : v = .str s ∧ s.length ≤ 10000 := by
  cases h with
  | str h => exact ⟨rfl, h⟩
theorem DV.int_inv {i : Int} (h : DV g H v (.int i)) : v = .int i := by
  cases h with
  | int i => rfl
theorem DV.tup_inv {l : List Dt} (h : DV g H v (.tup l)) : ∃ b xs, v = .ref b ∧ H b = some (.tup xs) ∧ l.length ≤ 1000 ∧ DVs g H xs l := by
  cases h with
  | tup e h r => exact ⟨_, _, rfl, e, h, r⟩
theorem DV.tup2 {x y : Dt} (h : DV g H v (.tup [x, y])) : ∃ b vx vy, v = .ref b ∧ H b = some (.tup [vx, vy]) ∧ DV g H vx x ∧ DV g H vy y := by
  obtain ⟨b, xs, rfl, e, _, r⟩ := h.tup_inv
  cases r with
  | cons hx r =>
    cases r with
    | cons hy r =>
      cases r
      exact ⟨b, _, _, rfl, e, hx, hy⟩
theorem DV.tup3 {x y z : Dt} (h : DV g H v (.tup [x, y, z])) : ∃ b vx vy vz, v = .ref b ∧ H b = some (.tup [vx, vy, vz]) ∧ DV g H vx x ∧ DV g H vy y ∧ DV g H vz z := by
  obtain ⟨b, xs, rfl, e, _, r⟩ := h.tup_inv
  cases r with
  | cons hx r =>
    cases r with
    | cons hy r =>
      cases r with
      | cons hz r =>
        cases r
        exact ⟨b, _, _, _, rfl, e, hx, hy, hz⟩
end
def spFm (n : Nat) : Sp := fun vs H Q _ => 1 ≤ n ∧ ∃ (g : Addr) (v : V) (d : Dt), vs = [v, .int (n : Nat)] ∧ DV g H v d ∧ ∀ H', Same H H' → Q (.bl (formed n d)) H'
def spFl (n : Nat) : Sp := fun vs H Q _ => 1 ≤ n ∧ ∃ (g : Addr) (v : V) (d : Dt), vs = [v, .int (n : Nat)] ∧ DV g H v d ∧ ∀ H', Same H H' → Q (.bl (fieldsF (formed n) d)) H'
def spWc (n : Nat) : Sp := fun vs H Q _ => 1 ≤ n ∧ ∃ (g : Addr) (v : V) (d : Dt), vs = [v] ∧ DV g H v d ∧ formed n d = true ∧ ∀ H', Same H H' → Q (.int (wordsN n d)) H'
structure MgK (K : PySem.W.Frag) (mg : Str → Option Value) (fWhl fWin fTof fTin fDbl fNm fPl fFm fFl fWc : Addr) : Prop extends MgP K mg fWhl where
  win : mg "is_within" = some (.ref fWin)
  kwin : PySem.W.keepIn K (.ref fWin) = true
  tof : mg "is_tuple_of" = some (.ref fTof)
  ktof : PySem.W.keepIn K (.ref fTof) = true
  tin : mg "is_tuple_within" = some (.ref fTin)
  ktin : PySem.W.keepIn K (.ref fTin) = true
  dbl : mg "has_doubles" = some (.ref fDbl)
  kdbl : PySem.W.keepIn K (.ref fDbl) = true
  nme : mg "is_name" = some (.ref fNm)
  knme : PySem.W.keepIn K (.ref fNm) = true
  pln : mg "is_plain" = some (.ref fPl)
  kpln : PySem.W.keepIn K (.ref fPl) = true
  fm : mg "_is_formed" = some (.ref fFm)
  kfm : PySem.W.keepIn K (.ref fFm) = true
  fl : mg "_are_fields" = some (.ref fFl)
  kfl : PySem.W.keepIn K (.ref fFl) = true
  wc : mg "word_count" = some (.ref fWc)
  kwc : PySem.W.keepIn K (.ref fWc) = true
  mit : ∃ t, mg "MOST_ITEMS" = some (.int 64 t)
  mfi : ∃ t, mg "MOST_FIELDS" = some (.int 6 t)
  sum : mg "sum" = none
section
variable {P : Program} {w : World} {K : PySem.W.Frag} {mg : Str → Option Value} {base : Heap}
theorem scFl : FnScope ["value", "deep", "field"] ["value", "deep"] (defScope sFl) := ⟨rfl, rfl, rfl, by decide +kernel, rfl, by decide +kernel, by decide +kernel⟩
theorem fields_bad {f : Dt → Bool} {l : List Dt} {p : Dt} (hp : p ∈ l) (h : pairF f p = false) : fieldsF f (.tup l) = false := by
  show ((decide (1 ≤ (l.length : Int)) && decide ((l.length : Int) ≤ 6)) && (l.all (pairF f) && decide (l.map nmOf).Nodup)) = false
  have e : l.all (pairF f) = false := by
    rw [List.all_eq_false]
    exact ⟨p, hp, by rw [h]; simp⟩
  rw [e]
  simp
theorem fl_step {n : Nat} {f fW fWin fTof fTin fDbl fNm fPl fFm fFl fWc : Addr} {fd fdTof fdTin fdDbl fdNm fdFm : FuncData} (F : Fun K "_are_fields" "_are_fields" sFl f fd) (T : MgK K mg fW fWin fTof fTin fDbl fNm fPl fFm fFl fWc)
    (FTof : Fun K "is_tuple_of" "is_tuple_of" sTof fTof fdTof) (bTof : L2.Binds K fdTof ["value", "many"] []) (FTin : Fun K "is_tuple_within" "is_tuple_within" sTin fTin fdTin) (bTin : L2.Binds K fdTin ["value", "low", "high"] [])
    (FDbl : Fun K "has_doubles" "has_doubles" sDbl fDbl fdDbl) (bDbl : L2.Binds K fdDbl ["rows"] []) (FNm : Fun K "is_name" "is_name" sNm fNm fdNm) (bNm : L2.Binds K fdNm ["value"] [])
    (GFm : FnOk P w K mg base CX0 (2 * n + 1) fFm fdFm ["value", "deep"] (spFm n)) (bFm : L2.Binds K fdFm ["value", "deep"] []) : FnOk P w K mg base CX0 (2 * n + 2) f fd ["value", "deep"] (spFl n) := by
  have GTof : FnOk P w K mg base CX0 1 fTof fdTof ["value", "many"] spTof := ok_tof FTof T.toMgP
  have GTin : FnOk P w K mg base CX0 1 fTin fdTin ["value", "low", "high"] spTin := ok_tin FTin T.toMgP
  have GDbl : FnOk P w K mg base CX0 1 fDbl fdDbl ["rows"] (spDbl K) := ok_dbl FDbl T.toMgP
  have GNm : FnOk P w K mg base CX0 1 fNm fdNm ["value"] (spAsk nameB) := ok_nm FNm T.toMgP
  refine F.ok scFl (fun vs H Q E h => ?_) (fun cdv A outer s H vs Q E hr h => ?_)
  · obtain ⟨_, g, v, d, rfl, _⟩ := h
    rfl
  · obtain ⟨hn, g, v, d, rfl, hd, k⟩ := h
    obtain ⟨tF, eF⟩ := T.mfi
    have hr1 : Room 1 _ := hr.mono (by omega)
    refine ⟨_, pss_cons (ps_if (pt_not (pt_val (pe_call GTin hr1 (by rfl) T.tin T.ktin bTin .nil pass0 (pa_cons (pv 0) (pa_cons pe_int (pa_cons (pe_glob (v := .int 6) (by rfl) eF ⟨_, rfl⟩) pa_nil)))))) (pss_one (ps_ret pe_bl)) pss_nil)
      (pss_cons (ps_for PassesOwn.never rfl (pi_tup (pv 0)) (pg_name (i := 2) scFl.nd rfl (Or.inl rfl))
        (pss_one (ps_if (PW.pt (pw_or (pt_not (pt_val (pe_call GTof hr1 (by rfl) T.tof T.ktof bTof .nil pass0 (pa_cons (pv 2) (pa_cons pe_int pa_nil)))))
          (pw_or (pt_not (pt_val (pe_call GNm hr1 (by rfl) T.nme T.knme bNm .nil pass0 (pa_cons (pe_ix ix_tup (pv 2) pe_int (fun _ _ => rfl)) pa_nil))))
            (pw_or1 (pt_not (pt_val (pe_call GFm hr (by rfl) T.fm T.kfm bFm .nil pass0 (pa_cons (pe_ix ix_tup (pv 2) pe_int (fun _ _ => rfl)) (pa_cons (pv 1) pa_nil)))))))))
          (pss_one (ps_ret pe_bl)) pss_nil)))
      (pss_one (ps_ret (pe_not (pe_call GDbl hr1 (by rfl) T.dbl T.kdbl bDbl .nil pass0 (pa_cons (pe_lc (own := [("field", 2)]) (g := gName 2) (tt := tYes) (by rfl) scFl.nd (pi_tup (pv 0))
          (blkOk_by (own := [("field", 2)]) (N := ["value", "deep", "field"]) (sc := defScope sFl) (by decide +kernel)) (fun _ _ _ _ _ => pg_name (i := 2) scFl.nd rfl (Or.inl rfl)) (fun _ _ _ _ _ => pts_nil)
          (fun _ _ _ _ _ => pe_ix (show IxR _ (rIxT K) from ix_tup) (pv 2) pe_int (fun _ _ => rfl))) pa_nil)))))), ?_⟩
    refine ⟨_, rfl, g, v, d, 1, 6, rfl, hd, fun H1 s1 => ⟨_, rfl, ?_⟩⟩
    have hd1 := hd.keep (Kv.of s1)
    cases hd1 with
    | @tup a xs ds e hl r =>
      cases hin : lenIn 1 6 (.tup ds) with
      | false =>
        refine iteT ?_
        have q := k H1 s1
        have e0 : fieldsF (formed n) (.tup ds) = false := by
          show (lenIn 1 6 (.tup ds) && _) = false
          rw [hin]
          rfl
        rw [e0] at q
        exact q
      | true =>
        refine iteF ?_
        -- for field in value
        have hlen := r.len
        refine ⟨_, rfl, a, rfl, ⟨_, SqT.of e⟩, for_tup (K := K) (a := a) (xs := xs)
          (fun i σ H' => ∃ fv : Option V, σ = [some (.ref a), some (.int (n : Nat)), fv] ∧ Same H1 H' ∧ ∀ p ∈ ds.take i, pairF (formed n) p = true)
          ⟨none, rfl, Same.refl H1, fun p hp => by simp at hp⟩ (fun i σ H' _ ⟨_, _, s2, _⟩ => SqT.of (s2 _ _ e)) ?_ ?_⟩
        · rintro i x σ H' hi ⟨fv, rfl, s2, all⟩
          obtain ⟨p, hp, hx⟩ := r.at_ hi
          have hx := hx.keep (Kv.of s2)
          have bad : pairF (formed n) p = false → Q (.bl false) H' := fun z => by
            have q := k H' (s1.trans s2)
            rw [fields_bad (List.mem_of_getElem? hp) z] at q
            exact q
          have bad' : ∀ H2, Same H' H2 → pairF (formed n) p = false → Q (.bl false) H2 := fun H2 s3 z => by
            have q := k H2 ((s1.trans s2).trans s3)
            rw [fields_bad (List.mem_of_getElem? hp) z] at q
            exact q
          refine ⟨_, rfl, g, x, p, 2, rfl, hx, fun H2 s3 => ⟨_, rfl, ?_⟩⟩
          cases h2 : lenIs 2 p with
          | false =>
            refine iteT ?_
            refine bad' H2 s3 ?_
            unfold pairF
            split
            · cases h2
            · rfl
          | true =>
            refine iteF ?_
            obtain ⟨y, z, rfl⟩ : ∃ y z, p = .tup [y, z] := by
              cases p with
              | tup l =>
                match l, h2 with
                | [y, z], _ => exact ⟨y, z, rfl⟩
                | [], h2 => cases h2
                | [_], h2 => cases h2
                | a1 :: a2 :: a3 :: l', h2 =>
                  have h2 : decide ((a1 :: a2 :: a3 :: l').length = 2) = true := h2
                  rw [decide_eq_true_eq] at h2
                  simp at h2
              | _ => cases h2
            obtain ⟨b, vy, vz, rfl, hb, hy, hz⟩ := (hx.keep (Kv.of s3)).tup2
            refine ⟨_, rfl, b, _, 0, vy, rfl, rfl, SqT.of hb, atI_nat (j := 0) rfl, g, vy, y, rfl, hy, fun H3 s4 => ⟨_, rfl, ?_⟩⟩
            cases h3 : nameB y with
            | false =>
              refine iteT ?_
              refine bad' H3 (s3.trans s4) ?_
              show (nameB y && formed n z) = false
              rw [h3]
              rfl
            | true =>
              refine iteF ?_
              refine ⟨_, rfl, b, _, 1, vz, rfl, rfl, SqT.of (s4 _ _ hb), atI_nat (j := 1) rfl, _, rfl, hn, g, vz, z, rfl, hz.keep (Kv.of s4), fun H4 s5 => ⟨_, rfl, ?_⟩⟩
              cases h4 : formed n z with
              | false =>
                refine iteT ?_
                refine bad' H4 ((s3.trans s4).trans s5) ?_
                show (nameB y && formed n z) = false
                rw [h4, Bool.and_false]
              | true =>
                refine iteF ?_
                refine ⟨_, rfl, s2.trans ((s3.trans s4).trans s5), fun p' hp' => ?_⟩
                rw [List.take_succ, hp] at hp'
                rcases List.mem_append.mp hp' with q | q
                · exact all p' q
                · obtain rfl := List.mem_singleton.mp q
                  show (nameB y && formed n z) = true
                  rw [h3, h4]
                  rfl
        · rintro σ H2 ⟨fv, rfl, s2, all⟩
          rw [hlen, List.take_length] at all
          -- not has_doubles([field[0] ..])
          refine ⟨_, rfl, a, rfl, ⟨_, SqT.of (s2 _ _ e)⟩, fun D hD => lc_tup (K := K) (a := a) (xs := xs)
            (fun i H' => H' D = some (.lst (((ds.take i).map nmOf).map V.str)) ∧ Same H2 H') ⟨upd_same, same_new hD⟩ (fun i H' _ ⟨_, s3⟩ => SqT.of (s3 _ _ (s2 _ _ e))) ?_ ?_⟩
          · rintro i x H' hi ⟨h1, s3⟩
            obtain ⟨p, hp, hx⟩ := r.at_ hi
            obtain ⟨s, y, rfl, _, _⟩ := pairF_of (all p (List.mem_of_getElem? hp))
            obtain ⟨b, vy, vz, rfl, hb, hy, hz⟩ := (hx.keep (Kv.of (s2.trans s3))).tup2
            obtain ⟨rfl, _⟩ := hy.str_inv
            refine ⟨rfl, ?_⟩
            refine ⟨_, rfl, b, _, 0, _, rfl, rfl, SqT.of hb, atI_nat (j := 0) rfl, _, h1, ?_, ?_, ?_⟩
            · rw [List.length_map, List.length_map, List.length_take, sizeLine_eq]
              omega
            · rw [upd_same, List.take_succ, hp, List.map_append, List.map_append]
              rfl
            · intro b' o e'
              rw [upd_ne (ne_of_none e' hD)]
              exact s3 _ _ e'
          · rintro H3 ⟨h1, s3⟩
            rw [hlen, List.take_length] at h1
            have six : ds.length ≤ 6 := by
              have h : (decide (1 ≤ (ds.length : Int)) && decide ((ds.length : Int) ≤ 6)) = true := hin
              rw [Bool.and_eq_true, decide_eq_true_eq, decide_eq_true_eq] at h
              omega
            refine ⟨D, ds.map nmOf, rfl, SqL.of h1, by rw [List.length_map]; omega, fun H4 s4 => ⟨_, rfl, ?_⟩⟩
            have q := k H4 (((s1.trans s2).trans s3).trans s4)
            have e0 : fieldsF (formed n) (.tup ds) = decide (ds.map nmOf).Nodup := by
              show (lenIn 1 6 (.tup ds) && (ds.all (pairF (formed n)) && _)) = _
              rw [hin, List.all_eq_true.mpr all]
              rfl
            rw [e0] at q
            rw [Bool.not_not]
            exact q
    | int i => exact iteT (k H1 s1)
    | bl b => exact iteT (k H1 s1)
    | non => exact iteT (k H1 s1)
    | str _ => exact iteT (k H1 s1)
    | lst _ _ _ _ => exact iteT (k H1 s1)
    | dic _ => exact iteT (k H1 s1)
end
end K3

set_option Elab.async false
set_option linter.all false
set_option pp.maxSteps 700
set_option maxRecDepth 100000
set_option maxHeartbeats 2000000
namespace K3
open PySem PySem.Spec PyProof.Rows L2
open TL (tl)
section
variable {P : Program} {w : World} {K : PySem.W.Frag} {mg : Str → Option Value} {base : Heap}
theorem scFm : FnScope ["value", "deep"] ["value", "deep"] (defScope sFm) := ⟨rfl, rfl, rfl, by decide +kernel, rfl, by decide +kernel, by decide +kernel⟩
theorem form_short {n : Nat} {l : List Dt} (h : lenIn 2 3 (.tup l) = false) : formed (n + 2) (.tup l) = false := by
  rw [formed_two]
  match l, h with
  | [], _ => rfl
  | [_], _ => rfl
  | [_, _], h => cases h
  | [_, _, _], h => cases h
  | _ :: _ :: _ :: _ :: _, _ => rfl
theorem form_long {l : List Dt} (h : lenIn 2 3 (.tup l) = true) : (∃ x y, l = [x, y]) ∨ ∃ x y z, l = [x, y, z] := by
  match l, h with
  | [], h => cases h
  | [_], h => cases h
  | [x, y], _ => exact .inl ⟨x, y, rfl⟩
  | [x, y, z], _ => exact .inr ⟨x, y, z, rfl⟩
  | a :: b :: c :: d :: r, h =>
    have h : (decide ((2 : Int) ≤ ((a :: b :: c :: d :: r).length : Int)) && decide (((a :: b :: c :: d :: r).length : Int) ≤ 3)) = true := h
    rw [Bool.and_eq_true, decide_eq_true_eq, decide_eq_true_eq] at h
    simp only [List.length_cons] at h
    omega
theorem fm_step {n : Nat} {f fW fWin fTof fTin fDbl fNm fPl fFm fFl fWc : Addr} {fd fdW fdWin fdTin fdPl fdFm fdFl : FuncData} (F : Fun K "_is_formed" "_is_formed" sFm f fd) (T : MgK K mg fW fWin fTof fTin fDbl fNm fPl fFm fFl fWc)
    (FW : Fun K "is_whole" "is_whole" sWhl fW fdW) (bW : L2.Binds K fdW ["value"] []) (FWin : Fun K "is_within" "is_within" sWin fWin fdWin) (bWin : L2.Binds K fdWin ["value", "low", "high"] [])
    (FTin : Fun K "is_tuple_within" "is_tuple_within" sTin fTin fdTin) (bTin : L2.Binds K fdTin ["value", "low", "high"] []) (FPl : Fun K "is_plain" "is_plain" sPl fPl fdPl) (bPl : L2.Binds K fdPl ["value"] [])
    (GFm : FnOk P w K mg base CX0 (2 * n + 1) fFm fdFm ["value", "deep"] (spFm n)) (bFm : L2.Binds K fdFm ["value", "deep"] []) (GFl : FnOk P w K mg base CX0 (2 * n + 2) fFl fdFl ["value", "deep"] (spFl n)) (bFl : L2.Binds K fdFl ["value", "deep"] []) :
    FnOk P w K mg base CX0 (2 * n + 3) f fd ["value", "deep"] (spFm (n + 1)) := by
  have GPl : FnOk P w K mg base CX0 1 fPl fdPl ["value"] (spAsk plainB) := ok_pl FPl T.toMgP
  have GTin : FnOk P w K mg base CX0 1 fTin fdTin ["value", "low", "high"] spTin := ok_tin FTin T.toMgP
  have GWin : FnOk P w K mg base CX0 2 fWin fdWin ["value", "low", "high"] spWin := ok_win FWin T.toMgP FW bW
  refine F.ok scFm (fun vs H Q E h => ?_) (fun cdv A outer s H vs Q E hr h => ?_)
  · obtain ⟨_, g, v, d, rfl, _⟩ := h
    rfl
  · obtain ⟨_, g, v, d, rfl, hd, k⟩ := h
    obtain ⟨tI, eI⟩ := T.mit
    have hr1 : Room 1 _ := hr.mono (by omega)
    have hr2 : Room 2 _ := hr.mono (by omega)
    have hrm : Room (2 * n + 1) _ := hr.mono (by omega)
    refine ⟨_, pss_cons (ps_if (pt_val (pe_call GPl hr1 (by rfl) T.pln T.kpln bPl .nil pass0 (pa_cons (pv 0) pa_nil))) (pss_one (ps_ret pe_bl)) pss_nil)
      (pss_cons (ps_if (PW.pt (pw_or (pt_cmpR op_lt (pv 1) pe_int (nomark _)) (pw_or1 (pt_not (pt_val (pe_call GTin hr1 (by rfl) T.tin T.ktin bTin .nil pass0 (pa_cons (pv 0) (pa_cons pe_int (pa_cons pe_int pa_nil))))))))) (pss_one (ps_ret pe_bl)) pss_nil)
      (pss_cons (ps_if (pt_cmpR (op_eqS hr.units) (pe_ix ix_tup (pv 0) pe_int (fun _ _ => rfl)) pe_str (nomark _))
        (pss_one (ps_ret (pe_and (pe_cmpR op_eq (pe_callB call_len_seq (by rfl) T.len PySem.boot_len (pa_cons (pv 0) pa_nil)) pe_int (nomark _))
          (pe_and (pe_call GWin hr2 (by rfl) T.win T.kwin bWin .nil pass0 (pa_cons (pe_ix ix_tup (pv 0) pe_int (fun _ _ => rfl)) (pa_cons pe_int (pa_cons (pe_glob (v := .int 64) (by rfl) eI ⟨_, rfl⟩) pa_nil))))
            (pe_one (pe_call GFm hrm (by rfl) T.fm T.kfm bFm .nil pass0 (pa_cons (pe_ix ix_tup (pv 0) pe_int (fun _ _ => rfl)) (pa_cons (pe_op op_sub (pv 1) pe_int) pa_nil)))))))) pss_nil)
      (pss_one (ps_ret (pe_and (pe_cmpR (op_eqS hr.units) (pe_ix ix_tup (pv 0) pe_int (fun _ _ => rfl)) pe_str (nomark _))
        (pe_and (pe_cmpR op_eq (pe_callB call_len_seq (by rfl) T.len PySem.boot_len (pa_cons (pv 0) pa_nil)) pe_int (nomark _))
          (pe_one (pe_call GFl hr (by rfl) T.fl T.kfl bFl .nil pass0 (pa_cons (pe_ix ix_tup (pv 0) pe_int (fun _ _ => rfl)) (pa_cons (pe_op op_sub (pv 1) pe_int) pa_nil)))))))))), ?_⟩
    refine ⟨_, rfl, g, v, d, rfl, hd, fun H1 s1 => ⟨_, rfl, ?_⟩⟩
    have hd1 := hd.keep (Kv.of s1)
    cases hp : plainB d with
    | true =>
      refine iteT ?_
      have q := k H1 s1
      have e0 : formed (n + 1) d = true := by
        cases d with
        | str z => rw [formed_str]; exact hp
        | _ => cases hp
      rw [e0] at q
      exact q
    | false =>
      refine iteF ?_
      refine ⟨_, rfl, _, _, rfl, rfl, _, rfl, ?_⟩
      cases n with
      | zero =>
        refine ifT (by decide) ?_
        have q := k H1 s1
        have e0 : formed (0 + 1) d = false := by
          cases d with
          | str z => rw [formed_str]; exact hp
          | _ => rfl
        rw [e0] at q
        exact q
      | succ m =>
        refine ifF (decide_eq_false (by omega)) ?_
        refine ⟨_, rfl, g, v, d, 2, 3, rfl, hd1, fun H2 s2 => ⟨_, rfl, ?_⟩⟩
        cases hl : lenIn 2 3 d with
        | false =>
          refine iteT ?_
          have q := k H2 (s1.trans s2)
          have e0 : formed (m + 1 + 1) d = false := by
            cases d with
            | str z => rw [formed_str]; exact hp
            | tup l => exact form_short hl
            | _ => rfl
          rw [e0] at q
          exact q
        | true =>
          refine iteF ?_
          have q := k
          cases d with
          | tup l =>
            rcases form_long hl with ⟨x, y, rfl⟩ | ⟨x, y, z, rfl⟩
            · obtain ⟨b, vx, vy, rfl, hb, hx, hy⟩ := (hd1.keep (Kv.of s2)).tup2
              refine ⟨_, rfl, b, _, 0, vx, rfl, rfl, SqT.of hb, atI_nat (j := 0) rfl, g, x, "row", rfl, hx, _, rfl, ?_⟩
              have e0 : formed (m + 1 + 1) (.tup [x, y]) = (eqS x "record" && fieldsF (formed (m + 1)) y) := rfl
              cases h1 : eqS x "row" with
              | true =>
                refine iteT ?_
                refine ⟨_, rfl, b, _, rfl, .inr (SqT.of hb), rfl, _, rfl, iteF ?_⟩
                have q1 := q H2 (s1.trans s2)
                rw [e0, eqS_of h1] at q1
                exact q1
              | false =>
                refine iteF ?_
                refine ⟨_, rfl, b, _, 0, vx, rfl, rfl, SqT.of hb, atI_nat (j := 0) rfl, g, x, "record", rfl, hx, _, rfl, ?_⟩
                cases h2 : eqS x "record" with
                | false =>
                  refine iteF ?_
                  have q1 := q H2 (s1.trans s2)
                  rw [e0, h2] at q1
                  exact q1
                | true =>
                  refine iteT ?_
                  refine ⟨_, rfl, b, _, rfl, .inr (SqT.of hb), rfl, _, rfl, iteT ?_⟩
                  refine ⟨_, rfl, b, _, 1, vy, rfl, rfl, SqT.of hb, atI_nat (j := 1) rfl, _, rfl, _, _, rfl, rfl, by omega, g, vy, y, ?_, hy, fun H3 s3 => ?_⟩
                  · have e : ((m + 1 + 1 : Nat) : Int) - 1 = ((m + 1 : Nat) : Int) := by omega
                    show [vy, V.int (((m + 1 + 1 : Nat) : Int) - 1)] = _
                    rw [e]
                  · have q1 := q H3 ((s1.trans s2).trans s3)
                    rw [e0, h2] at q1
                    exact q1
            · obtain ⟨b, vx, vy, vz, rfl, hb, hx, hy, hz⟩ := (hd1.keep (Kv.of s2)).tup3
              refine ⟨_, rfl, b, _, 0, vx, rfl, rfl, SqT.of hb, atI_nat (j := 0) rfl, g, x, "row", rfl, hx, _, rfl, ?_⟩
              have e0 : formed (m + 1 + 1) (.tup [x, y, z]) = (eqS x "row" && (intIn 1 64 y && formed (m + 1) z)) := rfl
              cases h1 : eqS x "row" with
              | true =>
                refine iteT ?_
                refine ⟨_, rfl, b, _, rfl, .inr (SqT.of hb), rfl, _, rfl, iteT ?_⟩
                refine ⟨_, rfl, b, _, 1, vy, rfl, rfl, SqT.of hb, atI_nat (j := 1) rfl, g, vy, y, 1, 64, rfl, hy, fun H3 s3 => ⟨_, rfl, ?_⟩⟩
                cases h2 : intIn 1 64 y with
                | false =>
                  refine iteF ?_
                  have q1 := q H3 ((s1.trans s2).trans s3)
                  rw [e0, h1, h2] at q1
                  exact q1
                | true =>
                  refine iteT ?_
                  refine ⟨_, rfl, b, _, 2, vz, rfl, rfl, SqT.of (s3 _ _ hb), atI_nat (j := 2) rfl, _, rfl, _, _, rfl, rfl, by omega, g, vz, z, ?_, hz.keep (Kv.of s3), fun H4 s4 => ?_⟩
                  · have e : ((m + 1 + 1 : Nat) : Int) - 1 = ((m + 1 : Nat) : Int) := by omega
                    show [vz, V.int (((m + 1 + 1 : Nat) : Int) - 1)] = _
                    rw [e]
                  · have q1 := q H4 (((s1.trans s2).trans s3).trans s4)
                    rw [e0, h1, h2] at q1
                    exact q1
              | false =>
                refine iteF ?_
                refine ⟨_, rfl, b, _, 0, vx, rfl, rfl, SqT.of hb, atI_nat (j := 0) rfl, g, x, "record", rfl, hx, _, rfl, ?_⟩
                have q1 := q H2 (s1.trans s2)
                rw [e0, h1] at q1
                cases h2 : eqS x "record" with
                | false => exact iteF q1
                | true =>
                  refine iteT ?_
                  exact ⟨_, rfl, b, _, rfl, .inr (SqT.of hb), rfl, _, rfl, iteF q1⟩
          | _ => cases hl
/-- nothing is asked: nothing is promised -/
theorem ok_none {f : Addr} {fd : FuncData} {x q : Str} {st : Stmt} {N ps : List Str} {k : Nat} {sp : Sp} (F : Fun K x q st f fd) (S : FnScope N ps (defScope st)) (no : ∀ vs H Q E, ¬ sp vs H Q E) : FnOk P w K mg base CX0 (k + 1) f fd ps sp :=
  F.ok S (fun vs H Q E h => (no vs H Q E h).elim) (fun cdv A outer s H vs Q E hr h => (no vs H Q E h).elim)
end
end K3

set_option Elab.async false
set_option linter.all false
set_option pp.maxSteps 700
set_option maxRecDepth 100000
set_option maxHeartbeats 2000000
namespace K3
open PySem PySem.Spec PyProof.Rows L2
open TL (tl)
def kindB (d : Dt) : Bool := formed 4 d && decide (wordsN 4 d ≤ 400)
abbrev excVE : List Value := [.type "ValueError", .type "Exception", .type "BaseException", .type "object"]
structure MgR (K : PySem.W.Frag) (mg : Str → Option Value) (fKd fNk C : Addr) : Prop where
  kd : mg "is_kind" = some (.ref fKd)
  kkd : PySem.W.keepIn K (.ref fKd) = true
  bk : mg "BadKind" = some (.ref C)
  kbk : PySem.W.keepIn K (.ref C) = true
  exI : PySem.W.excIn K C excVE "ValueError.__new__" = true
  sub : PySem.W.subIn K (.ref C) (.type "BaseException") = some true
  ty : PySem.W.typeIn K (.ref C) = some (.type "type")
  mde : ∃ t, mg "MOST_DEEP" = some (.int 4 t)
  mwo : ∃ t, mg "MOST_WORDS" = some (.int 400 t)
section
variable {P : Program} {w : World} {K : PySem.W.Frag} {mg : Str → Option Value} {base : Heap}
variable {fW fWin fTof fTin fDbl fNm fPl fFm fFl fWc fKd fNk C : Addr} {fdW fdWin fdTof fdTin fdDbl fdNm fdPl fdFm fdFl fdWc fdKd fdNk : FuncData}
/-- the defs that is_kind reaches -/
structure Fk (K : PySem.W.Frag) (fW fWin fTof fTin fDbl fNm fPl fFm fFl fWc : Addr) (fdW fdWin fdTof fdTin fdDbl fdNm fdPl fdFm fdFl fdWc : FuncData) : Prop where
  W : Fun K "is_whole" "is_whole" sWhl fW fdW
  bW : L2.Binds K fdW ["value"] []
  Win : Fun K "is_within" "is_within" sWin fWin fdWin
  bWin : L2.Binds K fdWin ["value", "low", "high"] []
  Tof : Fun K "is_tuple_of" "is_tuple_of" sTof fTof fdTof
  bTof : L2.Binds K fdTof ["value", "many"] []
  Tin : Fun K "is_tuple_within" "is_tuple_within" sTin fTin fdTin
  bTin : L2.Binds K fdTin ["value", "low", "high"] []
  Dbl : Fun K "has_doubles" "has_doubles" sDbl fDbl fdDbl
  bDbl : L2.Binds K fdDbl ["rows"] []
  Nm : Fun K "is_name" "is_name" sNm fNm fdNm
  bNm : L2.Binds K fdNm ["value"] []
  Pl : Fun K "is_plain" "is_plain" sPl fPl fdPl
  bPl : L2.Binds K fdPl ["value"] []
  Fm : Fun K "_is_formed" "_is_formed" sFm fFm fdFm
  bFm : L2.Binds K fdFm ["value", "deep"] []
  Fl : Fun K "_are_fields" "_are_fields" sFl fFl fdFl
  bFl : L2.Binds K fdFl ["value", "deep"] []
  Wc : Fun K "word_count" "word_count" sWc fWc fdWc
  bWc : L2.Binds K fdWc ["kind"] []
variable (D : Fk K fW fWin fTof fTin fDbl fNm fPl fFm fFl fWc fdW fdWin fdTof fdTin fdDbl fdNm fdPl fdFm fdFl fdWc) (T : MgK K mg fW fWin fTof fTin fDbl fNm fPl fFm fFl fWc)
include D T
theorem ok_fmfl : ∀ n : Nat, FnOk P w K mg base CX0 (2 * n + 1) fFm fdFm ["value", "deep"] (spFm n) ∧ FnOk P w K mg base CX0 (2 * n + 2) fFl fdFl ["value", "deep"] (spFl n)
  | 0 => ⟨ok_none D.Fm scFm (fun vs H Q E h => absurd h.1 (by omega)), ok_none D.Fl scFl (fun vs H Q E h => absurd h.1 (by omega))⟩
  | n + 1 => by
    obtain ⟨G1, G2⟩ := ok_fmfl n
    have A : FnOk P w K mg base CX0 (2 * (n + 1) + 1) fFm fdFm ["value", "deep"] (spFm (n + 1)) := fm_step D.Fm T D.W D.bW D.Win D.bWin D.Tin D.bTin D.Pl D.bPl G1 D.bFm G2 D.bFl
    exact ⟨A, fl_step D.Fl T D.Tof D.bTof D.Tin D.bTin D.Dbl D.bDbl D.Nm D.bNm A D.bFm⟩
omit D T
theorem scWc : FnScope ["kind", "_", "inner"] ["kind"] (defScope sWc) := ⟨rfl, rfl, rfl, by decide +kernel, rfl, by decide +kernel, by decide +kernel⟩
include D T
theorem ok_wc : ∀ n : Nat, FnOk P w K mg base CX0 (n + 1) fWc fdWc ["kind"] (spWc n)
  | 0 => ok_none D.Wc scWc (fun vs H Q E h => absurd h.1 (by omega))
  | n + 1 => by
    have G : FnOk P w K mg base CX0 (n + 1) fWc fdWc ["kind"] (spWc n) := ok_wc n
    have GPl : FnOk P w K mg base CX0 1 fPl fdPl ["value"] (spAsk plainB) := ok_pl D.Pl T.toMgP
    refine D.Wc.ok scWc (fun vs H Q E h => ?_) (fun cdv A outer s H vs Q E hr h => ?_)
    · obtain ⟨_, g, v, d, rfl, _⟩ := h
      rfl
    · obtain ⟨_, g, v, d, rfl, hd, hf, k⟩ := h
      have hr1 : Room 1 _ := hr.mono (by omega)
      refine ⟨_, pss_cons (ps_if (pt_val (pe_call GPl hr1 (by rfl) T.pln T.kpln D.bPl .nil pass0 (pa_cons (pv 0) pa_nil))) (pss_one (ps_ret pe_int)) pss_nil)
        (pss_cons (ps_if (pt_cmpR (op_eqS hr.units) (pe_ix ix_tup (pv 0) pe_int (fun _ _ => rfl)) pe_str (nomark _))
          (pss_one (ps_ret (pe_op op_mul (pe_ix ix_tup (pv 0) pe_int (fun _ _ => rfl)) (pe_call G hr (by rfl) T.wc T.kwc D.bWc .nil pass0 (pa_cons (pe_ix ix_tup (pv 0) pe_int (fun _ _ => rfl)) pa_nil))))) pss_nil)
        (pss_one (ps_ret (pe_callB (cr_sum rfl) (by rfl) T.sum (by decide +kernel) (pa_cons (pe_lc (own := [("_", 1), ("inner", 2)]) (g := gTup K 2 (gCons (gName 1) (gCons (gName 2) gNil))) (tt := tYes) (by rfl) scWc.nd (pi_tup (pe_ix ix_tup (pv 0) pe_int (fun _ _ => rfl)))
            (blkOk_by (own := [("_", 1), ("inner", 2)]) (N := ["kind", "_", "inner"]) (sc := defScope sWc) (by decide +kernel)) (fun _ _ _ _ _ => pg_tup (by rfl) (pgs_cons (pg_name (i := 1) scWc.nd rfl (Or.inl rfl)) (pgs_cons (pg_name (i := 2) scWc.nd rfl (Or.inl rfl)) pgs_nil))) (fun _ _ _ _ _ => pts_nil)
            (fun _ _ _ _ _ => pe_call G hr (by rfl) T.wc T.kwc D.bWc .nil pass0 (pa_cons (pv 2) pa_nil))) pa_nil))))), ?_⟩
      refine ⟨_, rfl, g, v, d, rfl, hd, fun H1 s1 => ⟨_, rfl, ?_⟩⟩
      have hd1 := hd.keep (Kv.of s1)
      rcases formed_cases hf with ⟨s, rfl, hs⟩ | ⟨m, hm, hh⟩
      · refine ifT hs ?_
        have q := k H1 s1
        rw [words_str] at q
        exact q
      · obtain rfl : n = m + 1 := by omega
        rcases hh with ⟨l, rfl, l1, l2, all, _⟩ | ⟨i, z, rfl, i1, i2, hz⟩
        · refine iteF ?_
          obtain ⟨b, vx, vy, rfl, hb, hx, hy⟩ := hd1.tup2
          refine ⟨_, rfl, b, _, 0, vx, rfl, rfl, SqT.of hb, atI_nat (j := 0) rfl, g, .str "record", "row", rfl, hx, _, rfl, ?_⟩
          refine ifF (by decide +kernel) ?_
          obtain ⟨c, xs, rfl, hc, _, r⟩ := hy.tup_inv
          refine ⟨_, rfl, b, _, 1, .ref c, rfl, rfl, SqT.of hb, atI_nat (j := 1) rfl, c, rfl, ⟨_, SqT.of hc⟩, fun L hL => lc_tup (K := K) (a := c) (xs := xs)
            (fun i H' => H' L = some (.lst (((l.take i).map (sndW (wordsN (m + 1)))).map V.int)) ∧ Same H1 H') ⟨upd_same, same_new hL⟩ (fun i H' _ ⟨_, s2⟩ => SqT.of (s2 _ _ hc)) ?_ ?_⟩
          · rintro i x H' hi ⟨h1, s2⟩
            obtain ⟨p, hp, hx'⟩ := r.at_ hi
            obtain ⟨s, y, rfl, _, hfy⟩ := pairF_of (all p (List.mem_of_getElem? hp))
            obtain ⟨e, v1, v2, rfl, he, h3, h4⟩ := (hx'.keep (Kv.of s2)).tup2
            refine ⟨e, _, rfl, SqT.of he, rfl, _, _, rfl, _, _, rfl, rfl, rfl, ?_⟩
            refine ⟨_, rfl, by omega, g, v2, y, rfl, h4, hfy, fun H2 s3 => ⟨_, s3 _ _ h1, ?_, ?_, ?_⟩⟩
            · rw [List.length_map, List.length_map, List.length_take, sizeLine_eq]
              omega
            · rw [upd_same, List.take_succ, hp, List.map_append, List.map_append]
              rfl
            · intro b' o e'
              rw [upd_ne (ne_of_none e' hL)]
              exact s3 _ _ (s2 _ _ e')
          · rintro H2 ⟨h1, s2⟩
            have hlen := r.len
            rw [hlen, List.take_length] at h1
            exact ⟨L, _, rfl, SqL.of h1, k H2 (s1.trans s2)⟩
        · refine iteF ?_
          obtain ⟨b, vx, vy, vz, rfl, hb, hx, hy, hz'⟩ := hd1.tup3
          obtain rfl := hy.int_inv
          refine ⟨_, rfl, b, _, 0, vx, rfl, rfl, SqT.of hb, atI_nat (j := 0) rfl, g, .str "row", "row", rfl, hx, _, rfl, ?_⟩
          refine ifT (by decide +kernel) ?_
          refine ⟨_, rfl, b, _, 1, _, rfl, rfl, SqT.of hb, atI_nat (j := 1) rfl, _, rfl, b, _, 2, vz, rfl, rfl, SqT.of hb, atI_nat (j := 2) rfl, by omega, g, vz, z, rfl, hz', hz, fun H2 s2 => ⟨_, _, rfl, rfl, .inl ⟨by omega, by omega⟩, ?_⟩⟩
          exact k H2 (s1.trans s2)
end
end K3

set_option Elab.async false
set_option linter.all false
set_option pp.maxSteps 700
set_option maxRecDepth 100000
set_option maxHeartbeats 2000000
namespace K3
open PySem PySem.Spec PyProof.Rows L2
open TL (tl)
section
variable {P : Program} {w : World} {K : PySem.W.Frag} {mg : Str → Option Value} {base : Heap}
variable {fW fWin fTof fTin fDbl fNm fPl fFm fFl fWc fKd fNk fWo C : Addr} {fdW fdWin fdTof fdTin fdDbl fdNm fdPl fdFm fdFl fdWc fdKd fdNk fdWo : FuncData}
variable (D : Fk K fW fWin fTof fTin fDbl fNm fPl fFm fFl fWc fdW fdWin fdTof fdTin fdDbl fdNm fdPl fdFm fdFl fdWc) (T : MgK K mg fW fWin fTof fTin fDbl fNm fPl fFm fFl fWc) (R : MgR K mg fKd fNk C)
theorem scKd : FnScope ["value"] ["value"] (defScope sKd) := ⟨rfl, rfl, rfl, by decide +kernel, rfl, by decide +kernel, by decide +kernel⟩
include D T R
theorem ok_kd (F : Fun K "is_kind" "is_kind" sKd fKd fdKd) : FnOk P w K mg base CX0 10 fKd fdKd ["value"] (spAsk kindB) := by
  have GFm : FnOk P w K mg base CX0 9 fFm fdFm ["value", "deep"] (spFm 4) := (ok_fmfl D T 4).1
  have GWc : FnOk P w K mg base CX0 5 fWc fdWc ["kind"] (spWc 4) := ok_wc D T 4
  refine F.ok scKd (fun vs H Q E h => ?_) (fun cdv A outer s H vs Q E hr h => ?_)
  · obtain ⟨g, v, d, rfl, _⟩ := h
    rfl
  · obtain ⟨g, v, d, rfl, hd, k⟩ := h
    obtain ⟨t1, e1⟩ := R.mde
    obtain ⟨t2, e2⟩ := R.mwo
    have hr5 : Room 5 _ := hr.mono (by decide)
    refine ⟨_, pss_one (ps_ret (pe_and (pe_call GFm hr (by rfl) T.fm T.kfm D.bFm .nil pass0 (pa_cons (pv 0) (pa_cons (pe_glob (v := .int 4) (by rfl) e1 ⟨_, rfl⟩) pa_nil)))
      (pe_one (pe_cmpR op_le (pe_call GWc hr5 (by rfl) T.wc T.kwc D.bWc .nil pass0 (pa_cons (pv 0) pa_nil)) (pe_glob (v := .int 400) (by rfl) e2 ⟨_, rfl⟩) (nomark _))))), ?_⟩
    refine ⟨_, rfl, by decide, g, v, d, rfl, hd, fun H1 s1 => ⟨_, rfl, ?_⟩⟩
    cases h : formed 4 d with
    | false =>
      refine iteF ?_
      have q := k H1 s1
      unfold kindB at q
      rw [h] at q
      exact q
    | true =>
      refine iteT ?_
      refine ⟨_, rfl, by decide, g, v, d, rfl, hd.keep (Kv.of s1), h, fun H2 s2 => ⟨_, _, rfl, rfl, ?_⟩⟩
      have q := k H2 (s1.trans s2)
      unfold kindB at q
      rw [h] at q
      exact q
end
end K3

set_option Elab.async false
set_option linter.all false
set_option pp.maxSteps 700
set_option maxRecDepth 100000
set_option maxHeartbeats 2000000
namespace K3
open PySem PySem.Spec PyProof.Rows L2
open TL (tl)
abbrev sCbw : Stmt := top 65
section
variable {X : Cx}
/-- xs == [], xs any list -/
theorem op_eqNil (hu : X.A.units + 64 < cLine) : OpR X (compareOp .Eq) (fun x y H Q => ∃ (a b : Addr) (xs : List V), x = .ref a ∧ y = .ref b ∧ SqL X.K H a xs ∧ SqL X.K H b [] ∧ Q (.bl xs.isEmpty) H) := by
  intro pins s σ H x y v u Q I rx ry h
  obtain ⟨a, b, xs, rfl, rfl, ha, hb, q⟩ := h
  cases (show v = Value.ref a from rx)
  cases (show u = Value.ref b from ry)
  obtain ⟨us, r1, p1, _⟩ := I.list ha
  obtain ⟨ws, r2, p2, _⟩ := I.list hb
  cases r2
  cases r1 with
  | nil => exact SeqAt.eq_listAt (e := fun _ => true) p1.isList p2.isList rfl (by omega) (fun j h1 _ => absurd h1 (by simp)) (fin_bl I q rfl)
  | cons h t => exact SeqAt.eq_list_lengthsAt p1.isList p2.isList (by simp) (by omega) (fin_bl I q rfl)
end
structure MgJ (K : PySem.W.Frag) (mg : Str → Option Value) (fWd fCbw fNmr fFlr fFor : Addr) : Prop where
  cbw : mg "_law_cb_words" = some (.ref fCbw)
  kcbw : PySem.W.keepIn K (.ref fCbw) = true
  sum : mg "sum" = none
section
variable {P : Program} {w : World} {K : PySem.W.Frag} {mg : Str → Option Value} {base : Heap}
variable {fWd fCbw fNmr fFlr fFor : Addr} {fdWd fdCbw fdNmr fdFlr fdFor : FuncData}
theorem scCbw : FnScope ["kind", "one"] ["kind"] (defScope sCbw) := ⟨rfl, rfl, rfl, by decide +kernel, rfl, by decide +kernel, by decide +kernel⟩
theorem filter_nil {l : List Nat} {f : Nat → Bool} : (l.filter (fun c => !f c)).isEmpty = l.all f := by
  induction l with
  | nil => rfl
  | cons x l ih =>
    rw [List.all_cons, List.filter_cons]
    cases h : f x with
    | true => exact ih
    | false => rfl
end
end K3

set_option Elab.async false
set_option linter.all false
set_option pp.maxSteps 700
set_option maxRecDepth 100000
set_option maxHeartbeats 2000000
namespace K3
open PySem PySem.Spec PyProof.Rows L2
open TL (tl)
section
variable {P : Program} {w : World} {K : PySem.W.Frag} {mg : Str → Option Value} {base : Heap}
variable {fWd fCbw fNmr fFlr fFor : Addr} {fdWd fdCbw fdNmr fdFlr fdFor : FuncData}
theorem plain_two {s : Str} (h : plainS s = true) : s = "number" ∨ s = "truth" := by
  unfold plainS at h
  rw [Bool.or_eq_true] at h
  rcases h with h | h
  · exact .inl (eq_of_beq h)
  · exact .inr (eq_of_beq h)
theorem plain_fst {s : Str} (h : plainS s = true) : ∃ c, atI s.cps.toList 0 = some c ∧ eqS (.str ⟨#[c]⟩) "row" = false ∧ eqS (.str ⟨#[c]⟩) "record" = false ∧ s.length ≤ sizeLine := by
  rcases plain_two h with rfl | rfl
  · exact ⟨110, atI_nat (j := 0) (by decide +kernel), by decide +kernel, by decide +kernel, by decide +kernel⟩
  · exact ⟨116, atI_nat (j := 0) (by decide +kernel), by decide +kernel, by decide +kernel, by decide +kernel⟩
theorem ok_cbw (T : MgJ K mg fWd fCbw fNmr fFlr fFor) (F : Fun K "_law_cb_words" "_law_cb_words" sCbw fCbw fdCbw) (b : L2.Binds K fdCbw ["kind"] []) : ∀ n : Nat, FnOk P w K mg base CX0 (n + 1) fCbw fdCbw ["kind"] (spWc n)
  | 0 => ok_none F scCbw (fun vs H Q E h => absurd h.1 (by omega))
  | n + 1 => by
    have G : FnOk P w K mg base CX0 (n + 1) fCbw fdCbw ["kind"] (spWc n) := ok_cbw T F b n
    refine F.ok scCbw (fun vs H Q E h => ?_) (fun cdv A outer s H vs Q E hr h => ?_)
    · obtain ⟨_, g, v, d, rfl, _⟩ := h
      rfl
    · obtain ⟨_, g, v, d, rfl, hd, hf, k⟩ := h
      refine ⟨_, pss_cons (ps_if (pt_cmpR (op_eqS hr.units) (pe_ix ix_seq (pv 0) pe_int (fun _ _ => rfl)) pe_str (nomark _))
          (pss_one (ps_ret (pe_op op_mul (pe_ix ix_tup (pv 0) pe_int (fun _ _ => rfl)) (pe_call G hr (by rfl) T.cbw T.kcbw b .nil pass0 (pa_cons (pe_ix ix_tup (pv 0) pe_int (fun _ _ => rfl)) pa_nil))))) pss_nil)
        (pss_one (ps_ret (pe_ifExp (pt_cmpR (op_eqS hr.units) (pe_ix ix_seq (pv 0) pe_int (fun _ _ => rfl)) pe_str (nomark _))
          (pe_callB (cr_sum rfl) (by rfl) T.sum (by decide +kernel) (pa_cons (pe_lc (own := [("one", 1)]) (g := gName 1) (tt := tYes) (by rfl) scCbw.nd (pi_tup (pe_ix ix_tup (pv 0) pe_int (fun _ _ => rfl)))
            (blkOk_by (own := [("one", 1)]) (N := ["kind", "one"]) (sc := defScope sCbw) (by decide +kernel)) (fun _ _ _ _ _ => pg_name (i := 1) scCbw.nd rfl (Or.inl rfl)) (fun _ _ _ _ _ => pts_nil)
            (fun _ _ _ _ _ => pe_call G hr (by rfl) T.cbw T.kcbw b .nil pass0 (pa_cons (pe_ix (show IxR _ (rIxT K) from ix_tup) (pv 1) pe_int (fun _ _ => rfl)) pa_nil))) pa_nil)) pe_int))), ?_⟩
      rcases formed_cases hf with ⟨s, rfl, hs⟩ | ⟨m, hm, hh⟩
      · obtain ⟨rfl, _⟩ := hd.str_inv
        obtain ⟨c, hc, n1, n2, zs⟩ := plain_fst hs
        refine ⟨_, rfl, .inr (.inr ⟨s, 0, c, rfl, rfl, zs, hc, g, .str ⟨#[c]⟩, "row", rfl, .str (by show 1 ≤ 10000; decide), _, rfl, ?_⟩)⟩
        refine ifF n1 ?_
        refine ⟨_, rfl, .inr (.inr ⟨s, 0, c, rfl, rfl, zs, hc, g, .str ⟨#[c]⟩, "record", rfl, .str (by show 1 ≤ 10000; decide), _, rfl, ?_⟩)⟩
        refine ifF n2 ?_
        have q := k H (Same.refl H)
        rw [words_str] at q
        exact q
      · obtain rfl : n = m + 1 := by omega
        rcases hh with ⟨l, rfl, l1, l2, all, _⟩ | ⟨i, z, rfl, i1, i2, hz⟩
        · obtain ⟨b', vx, vy, rfl, hb, hx, hy⟩ := hd.tup2
          refine ⟨_, rfl, .inr (.inl ⟨b', _, 0, vx, rfl, rfl, SqT.of hb, atI_nat (j := 0) rfl, g, .str "record", "row", rfl, hx, _, rfl, ?_⟩)⟩
          refine ifF (by decide +kernel) ?_
          refine ⟨_, rfl, .inr (.inl ⟨b', _, 0, vx, rfl, rfl, SqT.of hb, atI_nat (j := 0) rfl, g, .str "record", "record", rfl, hx, _, rfl, ?_⟩)⟩
          refine ifT (by decide +kernel) ?_
          obtain ⟨c, xs, rfl, hc, _, r⟩ := hy.tup_inv
          refine ⟨_, rfl, b', _, 1, .ref c, rfl, rfl, SqT.of hb, atI_nat (j := 1) rfl, c, rfl, ⟨_, SqT.of hc⟩, fun L hL => lc_tup (K := K) (a := c) (xs := xs)
            (fun i H' => H' L = some (.lst (((l.take i).map (sndW (wordsN (m + 1)))).map V.int)) ∧ Same H H') ⟨upd_same, same_new hL⟩ (fun i H' _ ⟨_, s2⟩ => SqT.of (s2 _ _ hc)) ?_ ?_⟩
          · rintro i x H' hi ⟨h1, s2⟩
            obtain ⟨p, hp, hx'⟩ := r.at_ hi
            obtain ⟨s, y, rfl, _, hfy⟩ := pairF_of (all p (List.mem_of_getElem? hp))
            obtain ⟨e, v1, v2, rfl, he, h3, h4⟩ := (hx'.keep (Kv.of s2)).tup2
            refine ⟨rfl, ?_⟩
            refine ⟨_, rfl, e, _, 1, v2, rfl, rfl, SqT.of he, atI_nat (j := 1) rfl, by omega, g, v2, y, rfl, h4, hfy, fun H2 s3 => ⟨_, s3 _ _ h1, ?_, ?_, ?_⟩⟩
            · rw [List.length_map, List.length_map, List.length_take, sizeLine_eq]
              omega
            · rw [upd_same, List.take_succ, hp, List.map_append, List.map_append]
              rfl
            · intro b' o e'
              rw [upd_ne (ne_of_none e' hL)]
              exact s3 _ _ (s2 _ _ e')
          · rintro H2 ⟨h1, s2⟩
            have hlen := r.len
            rw [hlen, List.take_length] at h1
            exact ⟨L, _, rfl, SqL.of h1, k H2 s2⟩
        · obtain ⟨b', vx, vy, vz, rfl, hb, hx, hy, hz'⟩ := hd.tup3
          obtain rfl := hy.int_inv
          refine ⟨_, rfl, .inr (.inl ⟨b', _, 0, vx, rfl, rfl, SqT.of hb, atI_nat (j := 0) rfl, g, .str "row", "row", rfl, hx, _, rfl, ?_⟩)⟩
          refine ifT (by decide +kernel) ?_
          refine ⟨_, rfl, b', _, 1, _, rfl, rfl, SqT.of hb, atI_nat (j := 1) rfl, _, rfl, b', _, 2, vz, rfl, rfl, SqT.of hb, atI_nat (j := 2) rfl, by omega, g, vz, z, rfl, hz', hz, fun H2 s2 => ⟨_, _, rfl, rfl, .inl ⟨by omega, by omega⟩, ?_⟩⟩
          exact k H2 s2
end
end K3

set_option Elab.async false
set_option linter.all false
set_option pp.maxSteps 700
set_option maxRecDepth 100000
set_option maxHeartbeats 2000000
namespace K3
open PySem PySem.Spec PyProof.Rows L2
open TL (tl)
abbrev sShf : Stmt := top 54
abbrev sTab : Stmt := top 58
abbrev sNmd : Stmt := top 59
abbrev sKnd : Stmt := top 66
/-! ### lists of texts as data -/
theorem erase_map {α β : Type} (f : α → β) (l : List α) (i : Nat) : (l.map f).eraseIdx i = (l.eraseIdx i).map f := by
  rw [List.eraseIdx_eq_take_drop_succ, List.eraseIdx_eq_take_drop_succ, List.map_append, List.map_take, List.map_drop]
theorem erase_perm {α : Type} {l : List α} {i : Nat} (h : i < l.length) : (l[i] :: l.eraseIdx i).Perm l := by
  rw [List.eraseIdx_eq_take_drop_succ]
  have q := List.perm_middle (a := l[i]) (l₁ := l.take i) (l₂ := l.drop (i + 1))
  rw [← List.drop_eq_getElem_cons h, List.take_append_drop] at q
  exact q.symm

theorem freshF {H H1 : Hp} {o : Addr} {u : HO} (ho : H o = none) (e : upd H o u = H1) : Same H H1 ∧ H1 o = some u := by
  subst e
  exact ⟨same_new ho, upd_same⟩

theorem dpStrs {K : PySem.W.Frag} {H : Hp} : ∀ gs : List Str, DpAll K H (gs.map V.str) (gs.map PyData.str)
  | [] => .nil
  | x :: r => .cons (.str x) (dpStrs r)
theorem layStrs : ∀ gs : List Str, (∀ x ∈ gs, PyData.strOk x = true) → PyData.canLayAll0 (gs.map PyData.str) = true
  | [], _ => rfl
  | x :: r, h => by
    show (PyData.strOk x && PyData.canLayAll0 (r.map PyData.str)) = true
    rw [layStrs r fun y hy => h y (List.mem_cons_of_mem _ hy), h x List.mem_cons_self]
    rfl
theorem depStrs : ∀ gs : List Str, PyData.depthAll (gs.map PyData.str) = 0
  | [] => rfl
  | x :: r => by
    show max 0 (PyData.depthAll (r.map PyData.str)) = 0
    rw [depStrs r]
    rfl
theorem shStrs (gs : List Str) (h : ∀ x ∈ gs, PyData.strOk x = true) : SeqAt.shaped (.list (gs.map PyData.str)) = true := by
  unfold SeqAt.shaped
  show (PyData.canLayAll0 (gs.map PyData.str) && decide (PyData.depthAll (gs.map PyData.str) + 1 ≤ 64)) = true
  rw [layStrs gs h, depStrs]
  rfl
/-! ### data without lists -/
mutual
def pur : Dt → Bool
  | .tup l => purs l
  | .lst _ => false
  | .dic => false
  | .str s => PyData.strOk s
  | _ => true
def purs : List Dt → Bool
  | [] => true
  | d :: l => pur d && purs l
end
mutual
def dep : Dt → Nat
  | .tup l => deps l + 1
  | _ => 0
def deps : List Dt → Nat
  | [] => 0
  | d :: l => max (dep d) (deps l)
end
theorem deps_mem {l : List Dt} {d : Dt} : d ∈ l → dep d ≤ deps l := by
  induction l with
  | nil => intro h; cases h
  | cons x l ih =>
    intro h
    rcases List.mem_cons.mp h with rfl | h
    · exact Nat.le_max_left _ _
    · exact Nat.le_trans (ih h) (Nat.le_max_right _ _)
theorem deps_le {l : List Dt} {k : Nat} : (∀ d ∈ l, dep d ≤ k) → deps l ≤ k := by
  induction l with
  | nil => intro h; exact Nat.zero_le _
  | cons x l ih => exact fun h => Nat.max_le.mpr ⟨h x List.mem_cons_self, ih fun d hd => h d (List.mem_cons_of_mem _ hd)⟩
theorem purs_all {l : List Dt} : purs l = l.all pur := by
  induction l with
  | nil => rfl
  | cons x l ih => rw [List.all_cons, ← ih]; rfl
theorem purs_mem {l : List Dt} {d : Dt} (h : purs l = true) (m : d ∈ l) : pur d = true := by
  rw [purs_all] at h
  exact List.all_eq_true.mp h d m
/-- tuples stay -/
def Kt (H H' : Hp) : Prop := ∀ b xs, H b = some (.tup xs) → H' b = some (.tup xs)
theorem Kt.of {H H' : Hp} (s : Same H H') : Kt H H' := fun b xs e => s _ _ e
theorem Kt.put {H : Hp} {p : Addr} {o : HO} {l : List V} (h : H p = some (.lst l)) : Kt H (upd H p o) := fun b xs e => by
  rw [upd_ne (fun z => by rw [z, h] at e; cases e)]
  exact e
theorem Kt.kp {g d c : Addr} {H H' : Hp} {n : Nat} (S : StA H d g c n) (k : Kp d g H H') : Kt H H' := (Kv.kp S k).tup
mutual
theorem DV.keepP {g g' : Addr} {H H' : Hp} (k : Kt H H') : ∀ {v : V} {d : Dt}, pur d = true → DV g H v d → DV g' H' v d
  | _, _, _, .non => .non
  | _, _, _, .bl b => .bl b
  | _, _, _, .int i => .int i
  | _, _, _, .str h => .str h
  | _, _, p, .lst e n h r => by cases p
  | _, _, p, .tup e h r => .tup (k _ _ e) h (DVs.keepP k (by exact p) r)
  | _, _, p, .dic e => by cases p
theorem DVs.keepP {g g' : Addr} {H H' : Hp} (k : Kt H H') : ∀ {v : List V} {d : List Dt}, purs d = true → DVs g H v d → DVs g' H' v d
  | _, _, _, .nil => .nil
  | _, _, p, .cons h r => by
    have p : (pur _ && purs _) = true := p
    rw [Bool.and_eq_true] at p
    exact .cons (DV.keepP k p.1 h) (DVs.keepP k p.2 r)
end
structure MgL (K : PySem.W.Frag) (mg : Str → Option Value) (fShf fTab fNmd fKnd fNam fCbw : Addr) : Prop where
  shf : mg "_law_shuffled" = some (.ref fShf)
  kshf : PySem.W.keepIn K (.ref fShf) = true
  tab : mg "_law_tx_table" = some (.ref fTab)
  ktab : PySem.W.keepIn K (.ref fTab) = true
  nmd : mg "_law_tx_named" = some (.ref fNmd)
  knmd : PySem.W.keepIn K (.ref fNmd) = true
  knd : mg "_law_cb_kind" = some (.ref fKnd)
  kknd : PySem.W.keepIn K (.ref fKnd) = true
  nam : mg "_law_tx_name" = some (.ref fNam)
  knam : PySem.W.keepIn K (.ref fNam) = true
  cbw : mg "_law_cb_words" = some (.ref fCbw)
  kcbw : PySem.W.keepIn K (.ref fCbw) = true
  lst : mg "list" = none
  tpl : mg "tuple" = none
  isi : mg "isinstance" = none
  str : mg "str" = none
  min : mg "min" = none
  rng : mg "range" = none
  len : mg "len" = none
def spShf : Sp := fun vs H Q _ => ∃ (d g c a : Addr) (n : Nat) (ts : List Str), vs = [.ref d, .ref a] ∧ StA H d g c n ∧ n ≤ 900000000 ∧ H a = some (.lst (ts.map V.str)) ∧ ts.length ≤ 60 ∧ (∀ x ∈ ts, PyData.strOk x = true) ∧
  ∀ (p : Addr) (ys : List Str) (H' : Hp), ys.Perm ts → StA H' d g c (n + ts.length) → Kp d g H H' → H p = none → H' p = some (.lst (ys.map V.str)) → Q (.ref p) H'
section
variable {P : Program} {w : World} {K : PySem.W.Frag} {mg : Str → Option Value} {base : Heap}
variable {fShf fTab fNmd fKnd fNam fCbw : Addr}
theorem Kp.upF {d g p : Addr} {H H' : Hp} {o : HO} (k : Kp d g H H') (hp : H p = none) : Kp d g H (upd H' p o) := fun b u e h1 h2 => by
  rw [upd_ne (ne_of_none e hp)]
  exact k b u e h1 h2
theorem StA.upF {H : Hp} {d g c p : Addr} {n : Nat} {o : HO} (S : StA H d g c n) (h1 : p ≠ d) (h2 : p ≠ g) (h3 : p ≠ c) : StA (upd H p o) d g c n := by
  obtain ⟨r, tt, gs, cs, S⟩ := S
  exact ⟨r, tt, gs, cs, { S with dk := by rw [upd_ne h1.symm]; exact S.dk, gl := by rw [upd_ne h2.symm]; exact S.gl, cl := by rw [upd_ne h3.symm]; exact S.cl }⟩
theorem StA.free {H : Hp} {d g c : Addr} {n : Nat} (S : StA H d g c n) {p : Addr} (hp : H p = none) : p ≠ d ∧ p ≠ g ∧ p ≠ c := by
  obtain ⟨r, tt, gs, cs, S⟩ := S
  exact ⟨(ne_of_none S.dk hp).symm, (ne_of_none S.gl hp).symm, (ne_of_none S.cl hp).symm⟩
theorem scShf : FnScope ["state", "some", "left", "found"] ["state", "some"] (defScope sShf) := ⟨rfl, rfl, rfl, by decide +kernel, rfl, by decide +kernel, by decide +kernel⟩
theorem ok_shf {f fM fD : Addr} {fd fdM fdD : FuncData} (F : Fun K "_law_shuffled" "_law_shuffled" sShf f fd) (T : MgS K mg fM fD) (L : MgL K mg fShf fTab fNmd fKnd fNam fCbw) (FM : Fun K "_law_mixed" "_law_mixed" sMix fM fdM) (bM : L2.Binds K fdM ["state"] [])
    (FD : Fun K "_law_draw" "_law_draw" sDrw fD fdD) (bD : L2.Binds K fdD ["state", "room"] []) : FnOk P w K mg base CX0 3 f fd ["state", "some"] spShf := by
  have GD : FnOk P w K mg base CX0 2 fD fdD ["state", "room"] spDrw := ok_drw FD T FM bM
  refine F.ok scShf (fun vs H Q E h => ?_) (fun cdv A outer s H vs Q E hr h => ?_)
  · obtain ⟨d, g, c, a, n, ts, rfl, _⟩ := h
    rfl
  · obtain ⟨d, g, c, a, n, ts, rfl, S, hn, ha, hts, hok, k⟩ := h
    refine ⟨_, (pss_cons (ps_par (i := 2) (j := 3) (by rfl) scShf.nd rfl rfl (by decide) rfl rfl (pa_cons (pe_callTy call_list_of (by rfl) L.lst (by decide +kernel) (pa_cons (pv 1) pa_nil)) (pa_cons (pe_lst pa_nil) pa_nil)) (by rfl))
      (pss_cons (ps_while PassesOwn.never (pt_cmpR (op_neD hr.units) (pv 2) (pe_lst pa_nil) (nomark _))
          (pss_one (ps_expr (qApp (pv 3) (qPopAt (pv 2) (pe_call GD hr (by rfl) T.dr T.kdr bD .nil pass0 (pa_cons (pv 0) (pa_cons (pe_callB call_len_seq (by rfl) T.len PySem.boot_len (pa_cons (pv 2) pa_nil)) pa_nil))))))))
      (pss_one (ps_ret (pv 3))))), ?_⟩
    refine ⟨_, rfl, a, _, rfl, .inl (SqL.of ha), fun l hl => ?_⟩
    refine ⟨Nat.zero_le _, fun f hf => ?_⟩
    refine ⟨_, _, rfl, ?_⟩
    have lf : l ≠ f := ne_of_none upd_same hf
    have hf0 : H f = none := by
      rw [upd_ne lf.symm] at hf
      exact hf
    have fl := S.free hl
    have ff := S.free hf0
    refine while_m (fun m σ H' => ∃ ls fs : List Str, σ = [some (.ref d), some (.ref a), some (.ref l), some (.ref f)] ∧ ls.length = m ∧ H' l = some (.lst (ls.map V.str)) ∧ H' f = some (.lst (fs.map V.str)) ∧ (fs ++ ls).Perm ts ∧ StA H' d g c (n + fs.length) ∧ Kp d g H H') ts.length
      ⟨ts, [], rfl, rfl, by rw [upd_ne lf]; exact upd_same, upd_same, List.Perm.refl _, (S.keep (same_new hl)).keep (same_new hf), ((Kp.refl H).upF hl).upF hf0⟩ ?_
    rintro m σ H1 ⟨ls, fs, rfl, hm, hL, hF, pm, S1, kp⟩
    have plen : fs.length + ls.length = ts.length := by
      have := pm.length_eq
      rw [List.length_append] at this
      exact this
    refine ⟨_, rfl, Nat.zero_le _, fun e he => ?_⟩
    have se := same_new (o := .lst []) he
    have hL2 := se _ _ hL
    refine ⟨_, .list [], .lst (SqL.of hL2) (dpStrs ls), .lst (SqL.of upd_same) .nil, shStrs ls (fun x hx => hok x (pm.mem_iff.mp (List.mem_append_right _ hx))), by decide, ?_⟩
    cases ls with
    | nil =>
      refine ⟨_, rfl, ?_⟩
      refine ifF rfl ?_
      refine ⟨_, rfl, k f fs _ ?_ ?_ (fun b u e' h1 h2 => se _ _ (kp b u e' h1 h2)) hf0 (se _ _ hF)⟩
      · rw [List.append_nil] at pm
        exact pm
      · have e2 : fs.length = ts.length := by simpa using plen
        rw [← e2]
        exact S1.keep se
    | cons x xs =>
      refine ⟨_, rfl, ?_⟩
      refine ifT rfl ?_
      refine ⟨fun σ' H' => ∃ m', m' < m ∧ ∃ ls fs : List Str, σ' = [some (.ref d), some (.ref a), some (.ref l), some (.ref f)] ∧ ls.length = m' ∧ H' l = some (.lst (ls.map V.str)) ∧ H' f = some (.lst (fs.map V.str)) ∧ (fs ++ ls).Perm ts ∧ StA H' d g c (n + fs.length) ∧ Kp d g H H', fun σ' H' z => z, ?_⟩
      have hF2 := se _ _ hF
      have S2 := S1.keep se
      have kp2 : Kp d g H (upd H1 e (.lst [])) := fun b u e' h1 h2 => se _ _ (kp b u e' h1 h2)
      generalize upd H1 e (.lst []) = H2 at hL2 hF2 S2 kp2 ⊢
      refine ⟨_, rfl, .inl ⟨rfl, _, SqL.of hF2⟩, _, rfl, .inl ⟨rfl, _, SqL.of hL2⟩, _, rfl, _, rfl, l, _, rfl, .inl (SqL.of hL2), d, g, c, n + fs.length, _, rfl, S2, by omega, by simp only [List.length_map, List.length_cons]; omega, by simp only [List.length_map, List.length_cons] at plen ⊢; omega, fun v H3 h0 h1 S3 kp3 => ?_⟩
      have hl3 := kp3 _ _ hL2 fl.1 fl.2.1
      have hf3 := kp3 _ _ hF2 ff.1 ff.2.1
      rw [List.length_map] at h1
      have hi : v.toNat < (x :: xs).length := by omega
      have hlen60 : (x :: xs).length ≤ 60 := by omega
      refine ⟨l, (x :: xs).map V.str, v, v.toNat, .str (x :: xs)[v.toNat], rfl, rfl, hl3, by omega, by omega, ?_, ?_, ?_⟩
      · refine seqIndex_of h0 ?_
        rw [List.length_map]
        exact h1
      · rw [List.getElem?_map, List.getElem?_eq_getElem hi]
        rfl
      · refine ⟨f, fs.map V.str, _, rfl, rfl, by rw [upd_ne lf.symm]; exact hf3, by rw [List.length_map, sizeLine_eq]; omega, ?_⟩
        refine ⟨m - 1, by simp only [List.length_cons] at hm; omega, (x :: xs).eraseIdx v.toNat, fs ++ [(x :: xs)[v.toNat]], rfl, ?_, ?_, ?_, ?_, ?_, ?_⟩
        · rw [List.length_eraseIdx_of_lt hi]
          simp only [List.length_cons] at hm ⊢
          omega
        · rw [upd_ne lf, upd_same, erase_map]
        · rw [upd_same, List.map_append]
          rfl
        · rw [List.append_assoc]
          exact (List.Perm.append_left fs (erase_perm hi)).trans pm
        · rw [List.length_append]
          exact (S3.upF fl.1 fl.2.1 fl.2.2).upF ff.1 ff.2.1 ff.2.2
        · have kq : Kp d g H H3 := fun b u e' h1 h2 => kp3 _ _ (kp2 b u e' h1 h2) h1 h2
          exact (kq.upF hl).upF hf0
end
/-! ### the table of new names -/
def oldS : List Str := ["u", "v2", "far", "m", "f", "g", "up", "a", "n0", "i0", "i1", "p", "q7", "d", "b", "x2", "zz", "s", "t0", "big"]
def xlw : List Str := ["x", "len", "w"]
theorem sgn_lt {c : Nat} (h : isSgn c = true) : c < 128 := by
  unfold isSgn isLet at h
  rw [Bool.or_eq_true, decide_eq_true_eq, decide_eq_true_eq] at h
  have a : ∀ c ∈ L26.cps.toList, c < 128 := by decide +kernel
  have b : ∀ c ∈ D10.cps.toList, c < 128 := by decide +kernel
  rcases h with h | h
  · exact a c h
  · exact b c h
theorem name_parts {s : Str} (h : nameS s = true) : 1 ≤ s.length ∧ s.length ≤ 8 ∧ PyData.strOk s = true := by
  unfold nameS at h
  simp only [Bool.and_eq_true, decide_eq_true_eq] at h
  refine ⟨h.1.1, h.1.2, ?_⟩
  have h2 := h.2.2.1
  rw [List.all_eq_true] at h2
  unfold PyData.strOk
  rw [Array.all_eq_true]
  intro i hi
  have := sgn_lt (h2 _ (by rw [Array.mem_toList_iff]; exact Array.getElem_mem hi))
  exact decide_eq_true (by omega)
/-- new names for old ones: none, or one for each of them -/
structure TblP (kvs : List (Key × V)) (ts : List Str) (xs : List Str) : Prop where
  val : ∀ k v, valV kvs k = some v → ∃ s : Str, v = .str s ∧ nameS s = true ∧ s ∈ ts
  key : ∀ k v, valV kvs k = some v → ∃ x : Str, k = .inr x ∧ x ∈ oldS ++ xlw
  inj : ∀ k k' v, valV kvs k = some v → valV kvs k' = some v → k = k'
  full : ∀ x ∈ xs, ∃ v, valV kvs (.inr x) = some v
structure TblOk (kvs : List (Key × V)) : Prop where
  ex : ∃ ts xs, TblP kvs ts xs ∧ ((kvs = [] ∧ xs = []) ∨ xs = oldS ++ xlw)
theorem TblOk.val {kvs : List (Key × V)} (t : TblOk kvs) : ∀ k v, valV kvs k = some v → ∃ s : Str, v = .str s ∧ nameS s = true := fun k v e => by
  obtain ⟨ts, xs, h, _⟩ := t.ex
  obtain ⟨s, a, b, _⟩ := h.val k v e
  exact ⟨s, a, b⟩
theorem TblP.put {kvs : List (Key × V)} {ts xs : List Str} {x s : Str} (t : TblP kvs ts xs) (hx : x ∈ oldS ++ xlw) (hs : nameS s = true) (hn : s ∉ ts) : TblP (putK kvs (.inr x) (.str s)) (ts ++ [s]) (xs ++ [x]) := by
  refine ⟨fun j v e => ?_, fun j v e => ?_, fun j j' v e e' => ?_, fun y hy => ?_⟩
  · rw [valV_put] at e
    by_cases ej : j = .inr x
    · rw [if_pos ej] at e
      exact ⟨s, (Option.some.inj e).symm, hs, List.mem_append_right _ List.mem_cons_self⟩
    · rw [if_neg ej] at e
      obtain ⟨z, a, b, c⟩ := t.val j v e
      exact ⟨z, a, b, List.mem_append_left _ c⟩
  · rw [valV_put] at e
    by_cases ej : j = .inr x
    · exact ⟨x, ej, hx⟩
    · rw [if_neg ej] at e
      exact t.key j v e
  · rw [valV_put] at e e'
    by_cases ej : j = .inr x
    · by_cases ej' : j' = .inr x
      · rw [ej, ej']
      · rw [if_pos ej] at e
        rw [if_neg ej'] at e'
        obtain ⟨z, a, _, c⟩ := t.val j' v e'
        have e := Option.some.inj e
        rw [a] at e
        injection e with e
        exact absurd (e ▸ c) hn
    · by_cases ej' : j' = .inr x
      · rw [if_pos ej'] at e'
        rw [if_neg ej] at e
        obtain ⟨z, a, _, c⟩ := t.val j v e
        have e' := Option.some.inj e'
        rw [a] at e'
        injection e' with e'
        exact absurd (e' ▸ c) hn
      · rw [if_neg ej] at e
        rw [if_neg ej'] at e'
        exact t.inj j j' v e e'
  · rw [valV_put]
    by_cases ej : (Sum.inr y : Key) = .inr x
    · rw [if_pos ej]
      exact ⟨_, rfl⟩
    · rw [if_neg ej]
      rcases List.mem_append.mp hy with q | q
      · exact t.full y q
      · exact absurd (congrArg Sum.inr (List.mem_singleton.mp q)) ej
theorem putK_len (c : List (Key × V)) (k : Key) (x : V) : (putK c k x).length ≤ c.length + 1 := by
  unfold putK
  by_cases e : (c.any fun kv => decide (kv.1 = k)) = true
  · rw [if_pos e, List.length_map]
    omega
  · rw [if_neg e, List.length_append]
    simp
def spTab : Sp := fun vs H Q _ => ∃ (d g c : Addr) (n : Nat), vs = [.ref d] ∧ StA H d g c n ∧ n ≤ 800000000 ∧
  ∀ (t : Addr) (kvs : List (Key × V)) (H' : Hp), StA H' d g c (n + 400) → Kp d g H H' → H t = none → H' t = some (.dK kvs) → TblOk kvs → Q (.ref t) H'
section
variable {P : Program} {w : World} {K : PySem.W.Frag} {mg : Str → Option Value} {base : Heap}
variable {fShf fTab fNmd fKnd fNam fCbw : Addr}
theorem scTab : FnScope ["state", "old", "table", "taken", "name"] ["state"] (defScope sTab) := ⟨rfl, rfl, rfl, by decide +kernel, rfl, by decide +kernel, by decide +kernel⟩
theorem ok_tab {f fM fD fP fW : Addr} {fd fdD fdNam : FuncData} (F : Fun K "_law_tx_table" "_law_tx_table" sTab f fd) (T : MgS K mg fM fD) (L : MgL K mg fShf fTab fNmd fKnd fNam fCbw)
    (GD : FnOk P w K mg base CX0 2 fD fdD ["state", "room"] spDrw) (bD : L2.Binds K fdD ["state", "room"] [])
    (GN : FnOk P w K mg base CX0 4 fNam fdNam ["state", "taken"] spNam) (bN : L2.Binds K fdNam ["state", "taken"] []) : FnOk P w K mg base CX0 5 f fd ["state"] spTab := by
  refine F.ok scTab (fun vs H Q E h => ?_) (fun cdv A outer s H vs Q E hr h => ?_)
  · obtain ⟨d, g, c, n, rfl, _⟩ := h
    rfl
  · obtain ⟨d, g, c, n, rfl, S, hn, k⟩ := h
    have hr2 : Room 2 _ := hr.mono (by decide)
    have hu := hu_of hr
    refine ⟨_, (pss_cons (ps_set (i := 1) scTab.nd rfl (Or.inl rfl) (pe_lst (pa_cons pe_str (pa_cons pe_str (pa_cons pe_str (pa_cons pe_str (pa_cons pe_str (pa_cons pe_str (pa_cons pe_str (pa_cons pe_str (pa_cons pe_str (pa_cons pe_str (pa_cons pe_str (pa_cons pe_str (pa_cons pe_str (pa_cons pe_str (pa_cons pe_str (pa_cons pe_str (pa_cons pe_str (pa_cons pe_str (pa_cons pe_str (pa_cons pe_str pa_nil))))))))))))))))))))))
      (pss_cons (ps_par (i := 2) (j := 3) (by rfl) scTab.nd rfl rfl (by decide) rfl rfl (pa_cons pe_dnewK (pa_cons (pe_lst (pa_cons pe_str pa_nil)) pa_nil)) (by rfl))
      (pss_cons (ps_for PassesOwn.never rfl (pi_list (pe_weak (pe_ifExp (pt_cmpR op_gt (pe_call GD hr2 (by rfl) T.dr T.kdr bD .nil pass0 (pa_cons (pv 0) (pa_cons pe_int pa_nil))) pe_int (nomark _)) (pe_op op_cat (pv 1) (pe_lst (pa_cons pe_str (pa_cons pe_str (pa_cons pe_str pa_nil))))) (pe_lst pa_nil)))) (pg_name (i := 4) scTab.nd rfl (Or.inl rfl))
          (pss_cons (ps_dput hu (pv 2) (pv 4) (pe_call GN hr (by rfl) L.nam L.knam bN .nil pass0 (pa_cons (pv 0) (pa_cons (pv 3) pa_nil))) rfl)
          (pss_one (ps_expr (qApp (pv 3) (pe_dget hu (pv 2) (pv 4) (fun _ _ => rfl)))))))
      (pss_one (ps_ret (pv 2)))))), ?_⟩
    refine ⟨(by show 20 ≤ sizeLine; decide), fun o ho => ?_⟩
    generalize hHa : upd H o _ = Ha
    obtain ⟨so, eo⟩ := freshF ho hHa
    have eo : Ha o = some (.lst (oldS.map V.str)) := eo
    refine fun t ht => ?_
    generalize hHb : upd Ha t _ = Hb
    obtain ⟨st, et⟩ := freshF ht hHb
    refine ⟨(by show 1 ≤ sizeLine; decide), fun kn hk => ?_⟩
    generalize hHc : upd Hb kn _ = Hc
    obtain ⟨sk, ek⟩ := freshF hk hHc
    have ek : Hc kn = some (.lst ((["main"] : List Str).map V.str)) := ek
    refine ⟨_, _, rfl, ?_⟩
    have S0 := ((S.keep so).keep st).keep sk
    have eo := sk _ _ (st _ _ eo)
    have et := sk _ _ et
    have fo := S.free ho
    have ft := (S.keep so).free ht
    have fk := ((S.keep so).keep st).free hk
    have kp0 : Kp d g H Hc := Kp.of ((so.trans st).trans sk)
    have ht0 : H t = none := so.free ht
    have hk0 : H kn = none := so.free (st.free hk)
    have tk : t ≠ kn := ne_of et ek (by intro z; cases z)
    refine ⟨fun v H3 => ∃ (x : Addr) (xs : List Str), v = .ref x ∧ (xs = [] ∨ xs = oldS ++ xlw) ∧ H3 x = some (.lst (xs.map V.str)) ∧ x ≠ d ∧ x ≠ g ∧ x ≠ t ∧ x ≠ kn ∧ StA H3 d g c (n + 1) ∧ Kp d g H H3 ∧ H3 t = some (.dK []) ∧ H3 kn = some (.lst ((["main"] : List Str).map V.str)), ?_, ?_⟩
    · refine ⟨_, rfl, d, g, c, n, 3, rfl, S0, by omega, by decide, by decide, fun v H2 h0 h1 S2 kp2 => ⟨_, _, rfl, rfl, _, rfl, ?_⟩⟩
      have eo := kp2 _ _ eo fo.1 fo.2.1
      have et := kp2 _ _ et ft.1 ft.2.1
      have ek := kp2 _ _ ek fk.1 fk.2.1
      have kp := kp0.trans kp2
      by_cases hv : v > 0
      · refine ifT (decide_eq_true hv) ?_
        refine ⟨_, rfl, (by show 3 ≤ sizeLine; decide), fun q hq => ?_⟩
        generalize hHd : upd H2 q _ = Hd
        obtain ⟨sq, eq⟩ := freshF hq hHd
        refine ⟨o, q, oldS.map V.str, xlw.map V.str, rfl, rfl, sq _ _ eo, eq, (by show 20 + 3 ≤ sizeLine; decide), fun x hx => ?_⟩
        generalize hHe : upd Hd x _ = He
        obtain ⟨sx, ex⟩ := freshF hx hHe
        have s3 := sq.trans sx
        have fx := S2.free (sq.free hx)
        exact ⟨x, oldS ++ xlw, rfl, .inr rfl, by rw [ex, List.map_append], fx.1, fx.2.1, (ne_of_none et (sq.free hx)).symm, (ne_of_none ek (sq.free hx)).symm, S2.keep s3, kp.trans (Kp.of s3), s3 _ _ et, s3 _ _ ek⟩
      · refine ifF (decide_eq_false hv) ?_
        refine ⟨Nat.zero_le _, fun x hx => ?_⟩
        generalize hHe : upd H2 x _ = He
        obtain ⟨s3, ex⟩ := freshF hx hHe
        have fx := S2.free hx
        exact ⟨x, [], rfl, .inl rfl, ex, fx.1, fx.2.1, (ne_of_none et hx).symm, (ne_of_none ek hx).symm, S2.keep s3, kp.trans (Kp.of s3), s3 _ _ et, s3 _ _ ek⟩
    · rintro _ H3 ⟨x, xs, rfl, hxs, ex, xd, xg, xt, xk, S3, kp3, et3, ek3⟩
      have hlen : xs.length ≤ 23 := by rcases hxs with rfl | rfl <;> decide
      refine ⟨x, rfl, ⟨_, SqL.of ex⟩, for_list (K := K) (a := x) (xs := xs.map V.str)
        (fun i σ H' => ∃ (kvs : List (Key × V)) (ts : List Str) (v : Option V), σ = [some (.ref d), some (.ref o), some (.ref t), some (.ref kn), v] ∧ H' x = some (.lst (xs.map V.str)) ∧ H' t = some (.dK kvs) ∧ H' kn = some (.lst (ts.map V.str)) ∧ TblP kvs ts (xs.take i) ∧ (i = 0 → kvs = []) ∧ kvs.length ≤ i ∧ ts.length ≤ i + 1 ∧ StA H' d g c (n + 1 + 12 * i) ∧ Kp d g H H')
        ⟨[], ["main"], none, rfl, ex, et3, ek3, ⟨fun k v e => (by cases e), fun k v e => (by cases e), fun k k' v e => (by cases e), fun x hx => (by simp at hx)⟩, fun _ => rfl, Nat.le_refl _, Nat.le_refl _, S3, kp3⟩ (fun i σ H' _ ⟨_, _, _, _, h, _⟩ => SqL.of h) ?_ ?_⟩
      · rintro i y σ H4 hi ⟨kvs, ts, v, rfl, ex4, et4, ek4, tb, _, kl, tl4, S4, kp4⟩
        have hil : i < 23 := by
          have := (List.getElem?_eq_some_iff.mp hi).1
          rw [List.length_map] at this
          omega
        rw [List.getElem?_map] at hi
        obtain ⟨nm, hnm, rfl⟩ := Option.map_eq_some_iff.mp hi
        refine ⟨_, rfl, _, rfl, d, g, c, kn, _, ts, rfl, S4, by omega, ek4, by omega, fk.2.1, fun z H5 okz S5 kp5 nmz nz => ?_⟩
        have ex5 := kp5 _ _ ex4 xd xg
        have et5 := kp5 _ _ et4 ft.1 ft.2.1
        have ek5 := kp5 _ _ ek4 fk.1 fk.2.1
        have lz : z.length ≤ 1000 := by have := (okS_to okz).2.2; omega
        refine ⟨_, rfl, _, rfl, t, _, rfl, DPut.k (k := Sum.inr nm) et5 (by rw [sizeLine_eq]; omega), ?_⟩
        have pk : valV (putK kvs (Sum.inr nm) (.str z)) (Sum.inr nm) = some (.str z) := by rw [valV_put, if_pos rfl]
        have dg : DGet (upd H5 t (.dK (putK kvs (Sum.inr nm) (.str z)))) t (.str nm) (some (.str z)) := by
          have e := DGet.k (k := Sum.inr nm) (upd_same (H := H5) (a := t) (o := .dK (putK kvs (Sum.inr nm) (.str z))))
          rw [pk] at e
          exact e
        have ek6 : upd H5 t (.dK (putK kvs (Sum.inr nm) (.str z))) kn = some (.lst (ts.map V.str)) := by rw [upd_ne tk.symm]; exact ek5
        refine ⟨_, rfl, .inl ⟨rfl, _, SqL.of ek6⟩, _, rfl, _, rfl, t, _, rfl, dg, kn, ts.map V.str, _, rfl, rfl, ek6, by rw [List.length_map, sizeLine_eq]; omega, ?_⟩
        have kp6 : Kp d g H H5 := kp4.trans kp5
        have hin : nm ∈ oldS ++ xlw := by
          have := List.mem_of_getElem? hnm
          rcases hxs with rfl | rfl
          · cases this
          · exact this
        have tb2 : TblP (putK kvs (Sum.inr nm) (.str z)) (ts ++ [z]) (xs.take (i + 1)) := by
          rw [List.take_succ, hnm]
          exact tb.put hin nmz nz
        refine ⟨putK kvs (Sum.inr nm) (.str z), ts ++ [z], _, rfl, ?_, ?_, ?_, tb2, (fun z => by omega), ?_, ?_, ?_, (kp6.upF ht0).upF hk0⟩
        · rw [upd_ne xk, upd_ne xt]
          exact ex5
        · rw [upd_ne tk]
          exact upd_same
        · rw [upd_same, List.map_append]
          rfl
        · have := putK_len kvs (Sum.inr nm) (.str z)
          omega
        · rw [List.length_append]
          show ts.length + 1 ≤ _
          omega
        · exact ((S5.upF (o := .dK (putK kvs (Sum.inr nm) (.str z))) ft.1 ft.2.1 ft.2.2).upF fk.1 fk.2.1 fk.2.2).mono (by omega)
      · rintro σ H4 ⟨kvs, ts, v, rfl, ex4, et4, ek4, tb, k0, kl, tl4, S4, kp4⟩
        rw [List.length_map] at S4 tb k0
        rw [List.take_length] at tb
        have tb : TblOk kvs := ⟨⟨ts, xs, tb, by
          rcases hxs with rfl | rfl
          · exact .inl ⟨k0 rfl, rfl⟩
          · exact .inr rfl⟩⟩
        exact ⟨_, rfl, k t kvs H4 (S4.mono (by omega)) kp4 ht0 et4 tb⟩
end
end K3

set_option Elab.async false
set_option linter.all false
set_option pp.maxSteps 700
set_option maxRecDepth 100000
set_option maxHeartbeats 2000000
namespace K3
open PySem PySem.Spec PyProof.Rows L2
open TL (tl)
/-! ### other names -/
mutual
def ren (f : Str → Str) : Dt → Dt
  | .str s => .str (f s)
  | .tup l => .tup (rens f l)
  | d => d
def rens (f : Str → Str) : List Dt → List Dt
  | [] => []
  | d :: l => ren f d :: rens f l
end
theorem rens_map {f : Str → Str} {l : List Dt} : rens f l = l.map (ren f) := by
  induction l with
  | nil => rfl
  | cons x l ih => rw [List.map_cons, ← ih]; rfl
def lookS (kvs : List (Key × V)) (s : Str) : Str := match valV kvs (.inr s) with
  | some (.str z) => z
  | _ => s
theorem TblOk.look {kvs : List (Key × V)} (t : TblOk kvs) {s : Str} (h : s.length ≤ 10000) (hs : PyData.strOk s = true) : (lookS kvs s).length ≤ 10000 ∧ PyData.strOk (lookS kvs s) = true := by
  unfold lookS
  cases e : valV kvs (.inr s) with
  | none => exact ⟨h, hs⟩
  | some v =>
    obtain ⟨z, rfl, hz⟩ := t.val _ _ e
    obtain ⟨_, a, b⟩ := name_parts hz
    exact ⟨(by show z.length ≤ 10000; omega), b⟩
/-- a value with other names -/
def spNmd (n : Nat) : Sp := fun vs H Q _ => ∃ (g : Addr) (v : V) (d : Dt) (t : Addr) (kvs : List (Key × V)), vs = [v, .ref t] ∧ DV g H v d ∧ pur d = true ∧ dep d < n ∧ H t = some (.dK kvs) ∧ TblOk kvs ∧
  ∀ (v' : V) (H' : Hp), DV g H' v' (ren (lookS kvs) d) → pur (ren (lookS kvs) d) = true → Same H H' → Q v' H'
theorem DVs.pick {g : Addr} {H : Hp} {xs : List V} {ds : List Dt} (r : DVs g H xs ds) {v : V} (h : v ∈ xs) : ∃ d, d ∈ ds ∧ DV g H v d := by
  obtain ⟨i, hi, e⟩ := List.mem_iff_getElem.mp h
  obtain ⟨d, h1, h2⟩ := r.at_ (i := i) (v := v) (by rw [List.getElem?_eq_getElem hi, e])
  exact ⟨d, List.mem_of_getElem? h1, h2⟩
theorem DVs.snoc {g : Addr} {H : Hp} {xs : List V} {ds : List Dt} (r : DVs g H xs ds) {v : V} {d : Dt} (h : DV g H v d) : DVs g H (xs ++ [v]) (ds ++ [d]) := r.app (.cons h .nil)
theorem purs_snoc {l : List Dt} {d : Dt} (h : purs l = true) (hd : pur d = true) : purs (l ++ [d]) = true := by
  rw [purs_all] at h ⊢
  rw [List.all_append, h]
  show (true && (pur d && true)) = true
  rw [hd]
  rfl
section
variable {P : Program} {w : World} {K : PySem.W.Frag} {mg : Str → Option Value} {base : Heap}
variable {fShf fTab fNmd fKnd fNam fCbw : Addr} {fdNmd : FuncData}
theorem scNmd : FnScope ["value", "table", "one"] ["value", "table"] (defScope sNmd) := ⟨rfl, rfl, rfl, by decide +kernel, rfl, by decide +kernel, by decide +kernel⟩
theorem ok_nmd (F : Fun K "_law_tx_named" "_law_tx_named" sNmd fNmd fdNmd) (L : MgL K mg fShf fTab fNmd fKnd fNam fCbw) (b : L2.Binds K fdNmd ["value", "table"] []) : ∀ n : Nat, FnOk P w K mg base CX0 (n + 1) fNmd fdNmd ["value", "table"] (spNmd n)
  | 0 => ok_none F scNmd (fun vs H Q E h => by obtain ⟨_, _, _, _, _, _, _, _, h, _⟩ := h; exact absurd h (by omega))
  | n + 1 => by
    have G : FnOk P w K mg base CX0 (n + 1) fNmd fdNmd ["value", "table"] (spNmd n) := ok_nmd F L b n
    refine F.ok scNmd (fun vs H Q E h => ?_) (fun cdv A outer s H vs Q E hr h => ?_)
    · obtain ⟨g, v, d, t, kvs, rfl, _⟩ := h
      rfl
    · obtain ⟨g, v, d, t, kvs, rfl, hd, hp, hn, ht, tb, k⟩ := h
      obtain ⟨ty, hty, k1, k2, k3, k4⟩ := hd.ty (K := K)
      have hu := hu_of hr
      refine ⟨_, (pss_cons (ps_if (pt_val (pe_callB call_isi (by rfl) L.isi (by decide +kernel) (pa_cons (pv 0) (pa_cons (pe_bltn (v := .ty "tuple") (by rfl) L.tpl boot_tuple rfl) pa_nil)))) (pss_one (ps_ret (pe_callTy call_tuple_of (by rfl) L.tpl (by decide +kernel) (pa_cons (pe_lc (own := [("one", 2)]) (g := gName 2) (tt := tYes) (by rfl) scNmd.nd (pi_tup (pv 0)) (blkOk_by (own := [("one", 2)]) (N := ["value", "table", "one"]) (sc := defScope sNmd) (by decide +kernel)) (fun _ _ _ _ _ => (pg_name (i := 2) scNmd.nd rfl (Or.inl rfl))) (fun _ _ _ _ _ => pts_nil) (fun _ _ _ _ _ => (pe_call G hr (by rfl) L.nmd L.knmd b .nil pass0 (pa_cons (pv 2) (pa_cons (pv 1) pa_nil))))) pa_nil)))) pss_nil)
      (pss_one (ps_ret (pe_ifExp (pt_val (pe_callB call_isi (by rfl) L.isi (by decide +kernel) (pa_cons (pv 0) (pa_cons (pe_bltn (v := .ty "str") (by rfl) L.str boot_str rfl) pa_nil)))) (pe_dget2 hu (pv 1) (pv 0) (pv 0) ⟨by rfl, by rfl, by rfl, by rfl⟩) (pv 0))))), ?_⟩
      refine ⟨_, rfl, _, _, _, _, _, rfl, .ty "tuple", hty, k2, _, rfl, ?_⟩
      have other : ren (lookS kvs) d = d → Q v H := fun e => k v H (by rw [e]; exact hd) (by rw [e]; exact hp) (Same.refl H)
      cases hd with
      | @tup a xs ds e hl r =>
        have hp : purs ds = true := hp
        have hn : deps ds + 1 < n + 1 := hn
        have hlen := r.len
        refine iteT ⟨_, rfl, a, rfl, ⟨_, SqT.of e⟩, fun D hD => lc_tup (K := K) (a := a) (xs := xs)
          (fun i H' => ∃ ys es, H' D = some (.lst ys) ∧ DVs g H' ys es ∧ purs es = true ∧ ys.length = i ∧ es = (ds.take i).map (ren (lookS kvs)) ∧ Same H H') ⟨[], [], upd_same, .nil, rfl, rfl, rfl, same_new hD⟩ (fun i H' _ ⟨_, _, _, _, _, _, _, s2⟩ => SqT.of (s2 _ _ e)) ?_ ?_⟩
        · rintro i x H' hi ⟨ys, es, h1, h2, h3, h4, h5, s2⟩
          obtain ⟨p, hp', hx⟩ := r.at_ hi
          have pm := List.mem_of_getElem? hp'
          have hil : i < xs.length := (List.getElem?_eq_some_iff.mp hi).1
          refine ⟨rfl, ?_⟩
          refine ⟨_, rfl, _, rfl, g, x, p, t, kvs, rfl, hx.keep (Kv.of s2), purs_mem hp pm, ?_, s2 _ _ ht, tb, fun v' H2 hv' pd' s3 => ⟨_, s3 _ _ h1, ?_, ?_⟩⟩
          · have := deps_mem pm
            omega
          · rw [h4, sizeLine_eq]
            omega
          · refine ⟨ys ++ [v'], es ++ [ren (lookS kvs) p], upd_same, ?_, purs_snoc h3 pd', by rw [List.length_append, h4]; rfl, by rw [List.take_succ, hp', List.map_append, h5]; rfl, ?_⟩
            · have kt : Kt H2 (upd H2 D (.lst (ys ++ [v']))) := Kt.put (s3 _ _ h1)
              exact ((h2.keep (Kv.of s3)).keepP kt h3).snoc (hv'.keepP kt pd')
            · intro b' o e'
              rw [upd_ne (ne_of_none e' hD)]
              exact s3 _ _ (s2 _ _ e')
        · rintro H2 ⟨ys, es, h1, h2, h3, h4, h5, s2⟩
          rw [hlen, List.take_length] at h5
          have e9 : ren (lookS kvs) (.tup ds) = .tup es := by rw [h5, ← rens_map]; rfl
          refine ⟨D, ys, rfl, .inl ⟨SqL.of h1, fun q hq => ?_⟩⟩
          generalize hHq : upd H2 q _ = Hq
          obtain ⟨sq, eq⟩ := freshF hq hHq
          refine k (.ref q) Hq (by rw [e9]; exact .tup eq (by rw [← h2.len, h4, hlen]; exact hl) (h2.keep (Kv.of sq))) (by rw [e9]; exact h3) (s2.trans sq)
      | @str z hz =>
        refine iteF ⟨_, rfl, _, _, _, _, _, rfl, .ty "str", hty, k1, _, rfl, ?_⟩
        refine iteT ⟨_, rfl, t, rfl, .inl ⟨kvs, .inl ht⟩, _, rfl, _, rfl, _, DGet.k (k := Sum.inr z) ht, ?_⟩
        obtain ⟨l1, l2⟩ := tb.look hz hp
        have e9 : (valV kvs (Sum.inr z)).getD (.str z) = .str (lookS kvs z) := by
          unfold lookS
          cases e : valV kvs (Sum.inr z) with
          | none => rfl
          | some v =>
            obtain ⟨s, rfl, hs⟩ := tb.val _ _ e
            rfl
        show Q ((valV kvs (Sum.inr z)).getD (.str z)) H
        rw [e9]
        exact k _ H (.str l1) l2 (Same.refl H)
      | int i => exact iteF ⟨_, rfl, _, _, _, _, _, rfl, .ty "str", hty, k1, _, rfl, iteF ⟨_, rfl, other rfl⟩⟩
      | bl b => exact iteF ⟨_, rfl, _, _, _, _, _, rfl, .ty "str", hty, k1, _, rfl, iteF ⟨_, rfl, other rfl⟩⟩
      | non => exact iteF ⟨_, rfl, _, _, _, _, _, rfl, .ty "str", hty, k1, _, rfl, iteF ⟨_, rfl, other rfl⟩⟩
      | lst _ _ _ _ => cases hp
      | dic _ => cases hp
end
/-! ### drawn kinds -/
theorem cut_take {ys : List Str} {m : Int} (h0 : 0 ≤ m) (h1 : m ≤ ys.length) : cutV (ys.map V.str) none (some m) = (ys.take m.toNat).map V.str := by
  obtain ⟨k, rfl⟩ := Int.eq_ofNat_of_zero_le h0
  unfold cutV
  rw [HT.sIx_none, List.drop_zero, HT.sIx_nat, List.length_map]
  have e : min k ys.length = k := by omega
  first
    | (rw [e, Nat.sub_zero, List.map_take, Int.toNat_natCast]; done)
    | (rw [List.map_take, Int.toNat_natCast]; congr 1; omega)
theorem deps_one (x y : Dt) : dep (.tup [x, y]) = max (dep x) (max (dep y) 0) + 1 := rfl
theorem sumCons (f : Dt → Int) (l : List Dt) (d : Dt) : ((l ++ [d]).map (sndW f)).sum = (l.map (sndW f)).sum + sndW f d := by
  rw [List.map_append, List.sum_append]
  simp

def bnd : Nat → Nat
  | 0 => 0
  | m + 1 => bnd m + 1000000
theorem bnd_succ (m : Nat) : bnd (m + 1) = bnd m + 1000000 := rfl
def cntK : Nat → Nat
  | 0 => 0
  | m + 1 => 10 + 6 * cntK m
theorem cnt_le {j : Nat} (h : j ≤ 2) : cntK (j + 1) ≤ 100000 := by
  match j, h with
  | 0, _ => decide
  | 1, _ => decide
  | 2, _ => decide
theorem bigA {n b k : Nat} (h : n + b ≤ 700000000) (hk : k ≤ 100000) : n + 1 + k ≤ 1000000000 := by omega
theorem bigB {n b c : Nat} (h : n + (b + 1000000) ≤ 700000000) (hc : c ≤ 100000 * 6) : n + 1 + 1 + 6 + c + b ≤ 700000000 := by omega
def sndD : Dt → Dt
  | .tup [_, z] => z
  | _ => .non
def in2 (nm : Str → Bool) (f : Dt → Bool) : List Dt → Bool
  | [_, .tup l] => l.all (fun p => nm (nmOf p) && f (sndD p))
  | [_, _, z] => f z
  | _ => true
/-- all names of records -/
def inK (nm : Str → Bool) : Nat → Dt → Bool
  | n + 2, .tup l => in2 nm (inK nm (n + 1)) l
  | _, _ => true
theorem inK_str {nm : Str → Bool} (n : Nat) (s : Str) : inK nm n (.str s) = true := by
  cases n with
  | zero => rfl
  | succ n => cases n <;> rfl
def kn6 : List Str := ["a", "b", "x", "q7", "len", "w"]
theorem kn6_ok : ∀ x ∈ kn6, PyData.strOk x = true ∧ nameS x = true ∧ x.length ≤ 1000 := by decide +kernel
theorem kn6_nd : kn6.Nodup := by decide +kernel
/-- m levels are left -/
def spKnd (m : Nat) : Sp := fun vs H Q _ => 1 ≤ m ∧ m ≤ 4 ∧ ∃ (d g c : Addr) (n : Nat) (cap : Int), vs = [.ref d, .int (4 - (m : Nat)), .int cap] ∧ StA H d g c n ∧ n + bnd m ≤ 700000000 ∧ 1 ≤ cap ∧ cap ≤ 400 ∧
  ∀ (v : V) (dt : Dt) (H' : Hp), DV g H' v dt → pur dt = true → formed m dt = true → inK (fun s => decide (s ∈ kn6)) m dt = true → wordsN m dt ≤ cap → dep dt ≤ 3 * m → StA H' d g c (n + cntK m) → Kp d g H H' → Q v H'
section
variable {P : Program} {w : World} {K : PySem.W.Frag} {mg : Str → Option Value} {base : Heap}
variable {fShf fTab fNmd fKnd fNam fCbw fD fP fM fWd fNmr fFlr fFor : Addr} {fdKnd fdD fdP fdShf fdCbw : FuncData}
theorem scKnd : FnScope ["state", "deep", "cap", "way", "inner", "many", "names", "name"] ["state", "deep", "cap"] (defScope sKnd) := ⟨rfl, rfl, rfl, by decide +kernel, rfl, by decide +kernel, by decide +kernel⟩
theorem ok_knd (F : Fun K "_law_cb_kind" "_law_cb_kind" sKnd fKnd fdKnd) (T : MgN K mg fM fD fP fWd) (L : MgL K mg fShf fTab fNmd fKnd fNam fCbw) (b : L2.Binds K fdKnd ["state", "deep", "cap"] [])
    (GD : FnOk P w K mg base CX0 2 fD fdD ["state", "room"] spDrw) (bD : L2.Binds K fdD ["state", "room"] [])
    (GP : FnOk P w K mg base CX0 3 fP fdP ["state", "some"] spPck) (bP : L2.Binds K fdP ["state", "some"] [])
    (GS : FnOk P w K mg base CX0 3 fShf fdShf ["state", "some"] spShf) (bS : L2.Binds K fdShf ["state", "some"] [])
    (GC : ∀ n, FnOk P w K mg base CX0 (n + 1) fCbw fdCbw ["kind"] (spWc n)) (bC : L2.Binds K fdCbw ["kind"] []) : ∀ m : Nat, FnOk P w K mg base CX0 (m + 5) fKnd fdKnd ["state", "deep", "cap"] (spKnd m)
  | 0 => ok_none F scKnd (fun vs H Q E h => absurd h.1 (by omega))
  | m + 1 => by
    have G : FnOk P w K mg base CX0 (m + 5) fKnd fdKnd ["state", "deep", "cap"] (spKnd m) := ok_knd F T L b GD bD GP bP GS bS GC bC m
    refine F.ok scKnd (fun vs H Q E h => ?_) (fun cdv A outer s H vs Q E hr h => ?_)
    · obtain ⟨_, _, d, g, c, n, cap, rfl, _⟩ := h
      rfl
    · obtain ⟨m1, m4, d, g, c, n, cap, rfl, S, hn, c1, c4, k⟩ := h
      have hr2 : Room 2 _ := hr.mono (by omega)
      have hr3 : Room 3 _ := hr.mono (by omega)
      have hrc : Room (m + 1) _ := hr.mono (by omega)
      have GCm : FnOk P w K mg base CX0 (m + 1) fCbw fdCbw ["kind"] (spWc m) := GC m
      refine ⟨_, (pss_cons (ps_set (i := 3) scKnd.nd rfl (Or.inl rfl) (pe_weak (pe_ifExp (pt_cmpR op_lt (pv 1) pe_int (nomark _)) (pe_call GD hr2 (by rfl) T.dr T.kdr bD .nil pass0 (pa_cons (pv 0) (pa_cons pe_int pa_nil))) pe_int)))
      (pss_cons (ps_if (pt_cmpR op_lt (pv 3) pe_int (nomark _)) (pss_one (ps_ret (pe_call GP hr3 (by rfl) T.pk T.kpk bP .nil pass0 (pa_cons (pv 0) (pa_cons (pe_lst (pa_cons pe_str (pa_cons pe_str (pa_cons pe_str pa_nil)))) pa_nil))))) pss_nil)
      (pss_cons (ps_if (pt_cmpR op_eq (pv 3) pe_int (nomark _)) (pss_cons (ps_set (i := 4) scKnd.nd rfl (Or.inl rfl) (pe_call G hr (by rfl) L.knd L.kknd b .nil pass0 (pa_cons (pv 0) (pa_cons (pe_op op_add (pv 1) pe_int) (pa_cons (pv 2) pa_nil)))))
          (pss_one (ps_ret (pe_tup (pa_cons pe_str (pa_cons (pe_callB (call_min2 rfl) (by rfl) L.min PyProof.Rows.boot_min (pa_cons (pe_call GP hr3 (by rfl) T.pk T.kpk bP .nil pass0 (pa_cons (pv 0) (pa_cons (pe_lst (pa_cons pe_int (pa_cons pe_int (pa_cons pe_int (pa_cons pe_int (pa_cons pe_int pa_nil)))))) pa_nil))) (pa_cons (pe_op op_fdivN (pv 2) (pe_call GCm hrc (by rfl) L.cbw L.kcbw bC .nil pass0 (pa_cons (pv 4) pa_nil))) pa_nil))) (pa_cons (pv 4) pa_nil))))))) pss_nil)
      (pss_cons (ps_set (i := 5) scKnd.nd rfl (Or.inr rfl) (pe_callB (call_min2 rfl) (by rfl) L.min PyProof.Rows.boot_min (pa_cons (pe_call GP hr3 (by rfl) T.pk T.kpk bP .nil pass0 (pa_cons (pv 0) (pa_cons (pe_lst (pa_cons pe_int (pa_cons pe_int (pa_cons pe_int (pa_cons pe_int (pa_cons pe_int pa_nil)))))) pa_nil))) (pa_cons (pv 2) pa_nil))))
      (pss_cons (ps_set (i := 6) scKnd.nd rfl (Or.inl rfl) (pe_slice sl_list (pe_call GS hr3 (by rfl) L.shf L.kshf bS .nil pass0 (pa_cons (pv 0) (pa_cons (pe_lst (pa_cons pe_str (pa_cons pe_str (pa_cons pe_str (pa_cons pe_str (pa_cons pe_str (pa_cons pe_str pa_nil))))))) pa_nil))) po_none (po_some (pv 5))))
      (pss_one (ps_ret (pe_tup (pa_cons pe_str (pa_cons (pe_callTy call_tuple_of (by rfl) L.tpl (by decide +kernel) (pa_cons (pe_lc (own := [("name", 7)]) (g := gName 7) (tt := tYes) (by rfl) scKnd.nd (pi_list (pv 6)) (blkOk_by (own := [("name", 7)]) (N := ["state", "deep", "cap", "way", "inner", "many", "names", "name"]) (sc := defScope sKnd) (by decide +kernel)) (fun _ _ _ _ _ => (pg_name (i := 7) scKnd.nd rfl (Or.inl rfl))) (fun _ _ _ _ _ => pts_nil) (fun _ _ _ _ _ => (pe_tup (pa_cons (pv 7) (pa_cons (pe_call G hr (by rfl) L.knd L.kknd b .nil pass0 (pa_cons (pv 0) (pa_cons (pe_op op_add (pv 1) pe_int) (pa_cons (pe_op op_fdivN (pv 2) (pv 5)) pa_nil)))) pa_nil))))) pa_nil)) pa_nil)))))))))), ?_⟩
      have hb := bnd_succ m
      have dp1 : (4 - ((m + 1 : Nat) : Int)) + 1 = 4 - (m : Nat) := by omega
      refine ⟨fun v H' => ∃ w : Int, v = .int w ∧ 0 ≤ w ∧ w < 4 ∧ (m = 0 → w = 0) ∧ StA H' d g c (n + 1) ∧ Kp d g H H', ?_, ?_⟩
      · refine ⟨_, rfl, _, _, rfl, rfl, _, rfl, ?_⟩
        by_cases hm : m = 0
        · refine ifF (decide_eq_false (by omega)) ?_
          exact ⟨0, rfl, by decide, by decide, fun _ => rfl, S.mono (by omega), Kp.refl H⟩
        · refine ifT (decide_eq_true (by omega)) ?_
          refine ⟨_, rfl, d, g, c, n, 4, rfl, S, by omega, by decide, by decide, fun v H' h0 h1 S2 kp2 => ⟨v, rfl, h0, h1, fun z => absurd z hm, S2, kp2⟩⟩
      rintro _ H1 ⟨way, rfl, w0, w4, wm, S1, kp1⟩
      refine ⟨_, rfl, _, _, rfl, rfl, _, rfl, ?_⟩
      by_cases hw2 : way < 2
      · refine ifT (decide_eq_true hw2) ?_
        refine ⟨_, rfl, (by show 3 ≤ sizeLine; decide), fun l hl => ?_⟩
        generalize hHl : upd H1 l _ = Hl
        obtain ⟨sl, el⟩ := freshF hl hHl
        refine ⟨d, g, c, l, n + 1, _, rfl, S1.keep sl, by omega, el, (S1.free hl).2.1, by simp, (by show 3 ≤ 1000000; decide), fun v H2 hv S2 kp2 => ?_⟩
        have e : ∃ z : Str, v = .str z ∧ plainS z = true ∧ z.length ≤ 10000 ∧ PyData.strOk z = true := by
          simp only [List.mem_cons, List.not_mem_nil, or_false] at hv
          rcases hv with rfl | rfl | rfl <;> exact ⟨_, rfl, by decide +kernel, by decide +kernel, by decide +kernel⟩
        obtain ⟨z, rfl, hz, lz, oz⟩ := e
        refine k _ (.str z) H2 (.str lz) oz (by rw [formed_str]; exact hz) (inK_str _ _) (by rw [words_str]; omega) (Nat.zero_le _) (S2.mono ?_) ((kp1.trans (Kp.of sl)).trans kp2)
        show n + 1 + 1 ≤ n + (10 + 6 * cntK m)
        omega
      · refine ifF (decide_eq_false hw2) ?_
        have hm0 : m ≠ 0 := fun z => by have := wm z; omega
        obtain ⟨j, rfl⟩ : ∃ j, m = j + 1 := ⟨m - 1, by omega⟩
        refine ⟨_, rfl, rfl, _, rfl, ?_⟩
        by_cases hw : way = 2
        · refine ifT (by rw [hw]; rfl) ?_
          refine ⟨_, rfl, _, rfl, _, _, rfl, rfl, _, rfl, by omega, by omega, d, g, c, n + 1, cap, ?_, S1, by omega, c1, c4, fun vi di H2 hvi pi fi ki wi de S2 kp2 => ?_⟩
          · show [V.ref d, V.int ((4 - ((j + 1 + 1 : Nat) : Int)) + 1), V.int cap] = _
            rw [dp1]
          obtain ⟨wb, _⟩ := words_bound _ _ fi
          refine ⟨_, rfl, (by show 5 ≤ sizeLine; decide), fun l hl => ?_⟩
          generalize hHl : upd H2 l _ = Hl
          obtain ⟨sl, el⟩ := freshF hl hHl
          refine ⟨d, g, c, l, n + 1 + cntK (j + 1), _, rfl, S2.keep sl, ?_, el, (S2.free hl).2.1, by simp, (by show 5 ≤ 1000000; decide), fun v H3 hv S3 kp3 => ?_⟩
          · exact bigA hn (cnt_le (j := j) (by omega))
          have e : ∃ z : Int, v = .int z ∧ 1 ≤ z ∧ z ≤ 64 := by
            simp only [List.mem_cons, List.not_mem_nil, or_false] at hv
            rcases hv with rfl | rfl | rfl | rfl | rfl <;> exact ⟨_, rfl, by decide, by decide⟩
          obtain ⟨z, rfl, z1, z64⟩ := e
          have hvi3 : DV g H3 vi di := (hvi.keep (Kv.of sl)).keep (Kv.kp (S2.keep sl) kp3)
          refine ⟨_, rfl, _, rfl, by omega, g, vi, di, rfl, hvi3, fi, fun H4 s4 => ?_⟩
          have w400 : wordsN (j + 1) di < 1073741824 := by omega
          refine ⟨_, _, rfl, rfl, ⟨by omega, by omega⟩, _, _, rfl, _, rfl, (by show 3 ≤ sizeLine; decide), fun p hp => ?_⟩
          generalize hHp : upd H4 p _ = Hp
          obtain ⟨sp, ep⟩ := freshF hp hHp
          have q1 : 1 ≤ cap.fdiv (wordsN (j + 1) di) := by
            rw [Int.fdiv_eq_ediv_of_nonneg _ (by omega)]
            exact (Int.le_ediv_iff_mul_le (by omega)).mpr (by omega)
          have q2 : cap.fdiv (wordsN (j + 1) di) * wordsN (j + 1) di ≤ cap := by
            rw [Int.fdiv_eq_ediv_of_nonneg _ (by omega)]
            exact Int.ediv_mul_le _ (by omega)
          generalize hi : (if cap.fdiv (wordsN (j + 1) di) < z then cap.fdiv (wordsN (j + 1) di) else z) = i at ep
          have i1 : 1 ≤ i := by rw [← hi]; split <;> omega
          have i64 : i ≤ 64 := by rw [← hi]; split <;> omega
          have i3 : i ≤ cap.fdiv (wordsN (j + 1) di) := by rw [← hi]; split <;> omega
          have iw : i * wordsN (j + 1) di ≤ cap := Int.le_trans (Int.mul_le_mul_of_nonneg_right i3 (by omega)) q2
          refine k _ (.tup [.str "row", .int i, di]) Hp (.tup ep (by show 3 ≤ 1000; decide) (.cons (.str (by decide +kernel)) (.cons (.int i) (.cons (hvi3.keep (Kv.of (s4.trans sp))) .nil)))) ?_ ?_ ?_ ?_ ?_ ?_ ?_
          · show (PyData.strOk "row" && (true && (pur di && true))) = true
            rw [pi]
            decide +kernel
          · rw [formed_two]
            show (true && ((decide (1 ≤ i) && decide (i ≤ 64)) && formed (j + 1) di)) = true
            rw [decide_eq_true i1, decide_eq_true i64, fi]
            rfl
          · exact ki
          · rw [words_two]
            exact iw
          · show max 0 (max 0 (max (dep di) 0)) + 1 ≤ 3 * (j + 1 + 1)
            omega
          · refine ((S3.keep s4).keep sp).mono ?_
            show n + 1 + cntK (j + 1) + 1 ≤ n + (10 + 6 * cntK (j + 1))
            omega
          · exact ((((kp1.trans kp2).trans (Kp.of sl)).trans kp3).trans (Kp.of s4)).trans (Kp.of sp)
        · refine ifF (decide_eq_false (fun z => hw (by injection z))) ?_
          -- many
          refine ⟨_, rfl, (by show 5 ≤ sizeLine; decide), fun l hl => ?_⟩
          generalize hHl : upd H1 l _ = Hl
          obtain ⟨sl, el⟩ := freshF hl hHl
          refine ⟨d, g, c, l, n + 1, _, rfl, S1.keep sl, by omega, el, (S1.free hl).2.1, by simp, (by show 5 ≤ 1000000; decide), fun v H2 hv S2 kp2 => ?_⟩
          have e : ∃ z : Int, v = .int z ∧ 1 ≤ z ∧ z ≤ 6 := by
            simp only [List.mem_cons, List.not_mem_nil, or_false] at hv
            rcases hv with rfl | rfl | rfl | rfl | rfl <;> exact ⟨_, rfl, by decide, by decide⟩
          obtain ⟨z, rfl, z1, z6⟩ := e
          refine ⟨_, rfl, _, _, rfl, ?_⟩
          generalize hi : (if cap < z then cap else z) = many
          have i1 : 1 ≤ many := by rw [← hi]; split <;> omega
          have i6 : many ≤ 6 := by rw [← hi]; split <;> omega
          have i3 : many ≤ cap := by rw [← hi]; split <;> omega
          -- names
          refine ⟨_, rfl, (by show 6 ≤ sizeLine; decide), fun l2 hl2 => ?_⟩
          generalize hHm : upd H2 l2 _ = Hm
          obtain ⟨sm, em⟩ := freshF hl2 hHm
          have em : Hm l2 = some (.lst (kn6.map V.str)) := em
          refine ⟨d, g, c, l2, n + 1 + 1, kn6, rfl, S2.keep sm, by omega, em, by decide, fun x hx => (kn6_ok x hx).1, fun p ys H3 pm S3 kp3 hp ep => ?_⟩
          have ys6 : ys.length = 6 := pm.length_eq
          refine ⟨_, rfl, _, rfl, p, _, rfl, SqL.of ep, fun q hq => ?_⟩
          rw [cut_take (by omega) (by omega)]
          generalize hHq : upd H3 q _ = Hq
          obtain ⟨sq, eq⟩ := freshF hq hHq
          have S4 := S3.keep sq
          have kpq : Kp d g H Hq := ((((kp1.trans (Kp.of sl)).trans kp2).trans (Kp.of sm)).trans kp3).trans (Kp.of sq)
          have hlN : (ys.take many.toNat).length = many.toNat := by rw [List.length_take]; omega
          have nmsOk : ∀ x ∈ ys.take many.toNat, nameS x = true ∧ x.length ≤ 1000 := fun x hx => (kn6_ok x (pm.mem_iff.mp (List.mem_of_mem_take hx))).2
          have nmsK : ∀ x ∈ ys.take many.toNat, x ∈ kn6 := fun x hx => pm.mem_iff.mp (List.mem_of_mem_take hx)
          have nmsNd : (ys.take many.toNat).Nodup := (pm.nodup_iff.mpr kn6_nd).sublist (List.take_sublist _ _)
          generalize ys.take many.toNat = ns at eq hlN nmsOk nmsNd nmsK
          have qd := (S3.free hq).1
          have qg := (S3.free hq).2.1
          have cb1 : 1 ≤ cap.fdiv many := by
            rw [Int.fdiv_eq_ediv_of_nonneg _ (by omega)]
            exact (Int.le_ediv_iff_mul_le (by omega)).mpr (by omega)
          have cb2 : cap.fdiv many * many ≤ cap := by
            rw [Int.fdiv_eq_ediv_of_nonneg _ (by omega)]
            exact Int.ediv_mul_le _ (by omega)
          have cb3 : cap.fdiv many ≤ 400 := by
            have : cap.fdiv many * 1 ≤ cap.fdiv many * many := Int.mul_le_mul_of_nonneg_left i1 (by omega)
            omega
          generalize hcb : cap.fdiv many = cb at cb1 cb2 cb3
          refine ⟨_, rfl, q, rfl, ⟨_, SqL.of eq⟩, fun D hD => lc_list (K := K) (a := q) (xs := ns.map V.str)
            (fun i H' => ∃ ys es, H' D = some (.lst ys) ∧ DVs g H' ys es ∧ purs es = true ∧ es.length = i ∧ (∀ p ∈ es, pairF (formed (j + 1)) p = true ∧ inK (fun s => decide (s ∈ kn6)) (j + 1) (sndD p) = true) ∧ es.map nmOf = ns.take i ∧ (es.map (sndW (wordsN (j + 1)))).sum ≤ cb * i ∧ deps es ≤ 3 * (j + 1) + 1 ∧ StA H' d g c (n + 1 + 1 + kn6.length + cntK (j + 1) * i) ∧ Kp d g Hq H')
            ⟨[], [], upd_same, .nil, rfl, rfl, (fun p hp => by cases hp), rfl, by simp, Nat.zero_le _, S4.keep (same_new hD), Kp.of (same_new hD)⟩ (fun i H' _ ⟨_, _, _, _, _, _, _, _, _, _, _, kp⟩ => SqL.of (kp _ _ eq qd qg)) ?_ ?_⟩
          · rintro i x H' hi ⟨ys, es, h1, h2, h3, h4, h5, h6, h7, h8, S5, kp5⟩
            have hil : i < ns.length := by
              have := (List.getElem?_eq_some_iff.mp hi).1
              rw [List.length_map] at this
              exact this
            rw [List.getElem?_map] at hi
            obtain ⟨nm, hnm, rfl⟩ := Option.map_eq_some_iff.mp hi
            have hnm' := nmsOk nm (List.mem_of_getElem? hnm)
            refine ⟨rfl, ?_⟩
            refine ⟨_, rfl, _, rfl, _, rfl, _, _, rfl, rfl, _, rfl, _, rfl, _, _, rfl, rfl, ⟨by omega, by omega⟩, by omega, by omega, d, g, c, _, cb, ?_, S5, ?_, cb1, cb3, fun vi di H2 hvi pi fi ki wi de S6 kp6 => ?_⟩
            · show [V.ref d, V.int ((4 - ((j + 1 + 1 : Nat) : Int)) + 1), V.int (cap.fdiv many)] = _
              rw [dp1, hcb]
            · exact bigB hn (Nat.mul_le_mul (cnt_le (j := j) (by omega)) (show i ≤ 6 by omega))
            refine ⟨(by show 2 ≤ sizeLine; decide), fun p hp => ?_⟩
            generalize hHp : upd H2 p _ = Hp
            obtain ⟨sp, ep⟩ := freshF hp hHp
            have hDd : D ≠ d := ((S4.free hD)).1
            have hDg : D ≠ g := ((S4.free hD)).2.1
            have h1' := sp _ _ (kp6 _ _ h1 hDd hDg)
            refine ⟨_, h1', ?_, ys ++ [.ref p], es ++ [.tup [.str nm, di]], upd_same, ?_, ?_, ?_, ?_, ?_, ?_, ?_, ?_, ?_⟩
            · rw [h2.len, h4, sizeLine_eq]
              omega
            · have kt : Kt Hp (upd Hp D (.lst (ys ++ [.ref p]))) := Kt.put h1'
              have a1 := (h2.keepP (g' := g) (Kt.kp S5 kp6) h3).keepP (g' := g) (Kt.of sp) h3
              refine (a1.keepP kt h3).snoc ?_
              refine DV.tup (kt _ _ ep) (by show 2 ≤ 1000; decide) (.cons (.str (Nat.le_trans hnm'.2 (by decide))) (.cons ((hvi.keepP (g' := g) (Kt.of sp) pi).keepP kt pi) .nil))
            · refine purs_snoc h3 ?_
              show (PyData.strOk nm && (pur di && true)) = true
              rw [pi, (name_parts hnm'.1).2.2]
              rfl
            · rw [List.length_append, h4]
              rfl
            · intro p' hp'
              rcases List.mem_append.mp hp' with q | q
              · exact h5 p' q
              · rw [List.mem_singleton.mp q]
                refine ⟨?_, ki⟩
                show (nameS nm && formed (j + 1) di) = true
                rw [hnm'.1, fi]
                rfl
            · rw [List.map_append, h6, List.take_succ, hnm]
              rfl
            · rw [sumCons]
              have e1 : cb * ((i + 1 : Nat) : Int) = cb * i + cb := by
                rw [Int.natCast_add, Int.mul_add]
                simp
              rw [e1]
              have e2 : sndW (wordsN (j + 1)) (.tup [.str nm, di]) = wordsN (j + 1) di := rfl
              rw [e2]
              omega
            · refine deps_le fun d' hd' => ?_
              rcases List.mem_append.mp hd' with q | q
              · exact Nat.le_trans (deps_mem q) h8
              · rw [List.mem_singleton.mp q]
                show max 0 (max (dep di) 0) + 1 ≤ _
                omega
            · refine ((S6.keep sp).upF hDd hDg (S4.free hD).2.2).mono ?_
              rw [Nat.mul_succ]
              omega
            · exact ((kp5.trans kp6).trans (Kp.of sp)).upF hD
          · rintro H5 ⟨ys, es, h1, h2, h3, h4, h5, h6, h7, h8, S5, kp5⟩
            rw [List.length_map] at h4 h6 h7 S5
            rw [List.take_length] at h6
            have hns : ns.length = many.toNat := hlN
            refine ⟨D, ys, rfl, .inl ⟨SqL.of h1, fun t ht => ?_⟩⟩
            generalize hHt : upd H5 t _ = Ht
            obtain ⟨stt, et⟩ := freshF ht hHt
            refine ⟨(by show 2 ≤ sizeLine; decide), fun p hp => ?_⟩
            generalize hHp : upd Ht p _ = Hp
            obtain ⟨sp, ep⟩ := freshF hp hHp
            refine k _ (.tup [.str "record", .tup es]) Hp (.tup ep (by show 2 ≤ 1000; decide) (.cons (.str (by decide +kernel)) (.cons (.tup (sp _ _ et) ?_ ((h2.keep (Kv.of stt)).keep (Kv.of sp))) .nil))) ?_ ?_ ?_ ?_ ?_ ?_ ?_
            · omega
            · show (PyData.strOk "record" && (purs es && true)) = true
              rw [h3]
              decide +kernel
            · rw [formed_two]
              show (true && ((decide (1 ≤ (es.length : Int)) && decide ((es.length : Int) ≤ 6)) && (es.all (pairF (formed (j + 1))) && decide (es.map nmOf).Nodup))) = true
              rw [h6, decide_eq_true nmsNd, List.all_eq_true.mpr (fun p hp => (h5 p hp).1), decide_eq_true (show 1 ≤ (es.length : Int) by omega), decide_eq_true (show (es.length : Int) ≤ 6 by omega)]
              rfl
            · show es.all (fun p => decide (nmOf p ∈ kn6) && inK (fun s => decide (s ∈ kn6)) (j + 1) (sndD p)) = true
              rw [List.all_eq_true]
              intro p hp
              have : nmOf p ∈ ns := by
                rw [← h6]
                exact List.mem_map.mpr ⟨p, hp, rfl⟩
              rw [decide_eq_true (nmsK _ this), (h5 p hp).2]
              rfl
            · rw [words_two]
              show (es.map (sndW (wordsN (j + 1)))).sum ≤ cap
              have e1 : ((ns.length : Nat) : Int) = many := by omega
              rw [e1] at h7
              omega
            · show max 0 (max (deps es + 1) 0) + 1 ≤ 3 * (j + 1 + 1)
              omega
            · refine ((S5.keep stt).keep sp).mono ?_
              have c2 : cntK (j + 1) * ns.length ≤ cntK (j + 1) * 6 := Nat.mul_le_mul_left _ (by omega)
              have c3 : kn6.length = 6 := rfl
              show _ ≤ n + (10 + 6 * cntK (j + 1))
              omega
            · exact ((kpq.trans kp5).trans (Kp.of stt)).trans (Kp.of sp)
end
end K3

set_option Elab.async false
set_option linter.all false
set_option maxRecDepth 100000
set_option maxHeartbeats 2000000
/-! tokens_of and what it calls, by their promises -/
namespace K3
open PySem PySem.Spec PyProof.Rows L2
open TL (tl)
abbrev sInit : Stmt := inClass (top 4) 0
abbrev sTO : Stmt := top 30
abbrev sLT : Stmt := top 31
abbrev sTE : Stmt := top 32

/-! ### the mathematics -/
def WS : Str := "abcdefghijklmnopqrstuvwxyzABCDEFGHIJKLMNOPQRSTUVWXYZ0123456789_"
def isW (c : Nat) : Bool := decide (c ∈ WS.cps.toList)
/-- where the token at i ends -/
def tokEnd (l : List Nat) (i : Nat) : Nat := if isW (l.getD i 0) = true then i + ((l.drop i).takeWhile isW).length else i + 1
theorem drop_getD {l : List Nat} {i : Nat} (h : i < l.length) : l.drop i = l.getD i 0 :: l.drop (i + 1) := by
  rw [List.drop_eq_getElem_cons h, List.getD_eq_getElem?_getD, List.getElem?_eq_getElem h]
  rfl
theorem run_step {l : List Nat} {i : Nat} (h : i < l.length) (hw : isW (l.getD i 0) = true) :
    i + ((l.drop i).takeWhile isW).length = (i + 1) + ((l.drop (i + 1)).takeWhile isW).length := by
  rw [drop_getD h, List.takeWhile_cons, if_pos hw, List.length_cons]
  omega
theorem run_stop {l : List Nat} {i : Nat} (h : i < l.length) (hw : isW (l.getD i 0) = false) :
    i + ((l.drop i).takeWhile isW).length = i := by
  rw [drop_getD h, List.takeWhile_cons, if_neg (by rw [hw]; exact Bool.false_ne_true)]
  rfl
theorem run_end {l : List Nat} {i : Nat} (h : l.length ≤ i) : i + ((l.drop i).takeWhile isW).length = i := by
  rw [List.drop_eq_nil_of_le h]
  rfl
theorem run_le {l : List Nat} {i : Nat} (h : i ≤ l.length) : i + ((l.drop i).takeWhile isW).length ≤ l.length := by
  have h1 : ((l.drop i).takeWhile isW).length ≤ (l.drop i).length := (List.takeWhile_sublist _).length_le
  rw [List.length_drop] at h1
  omega
theorem tokEnd_gt {l : List Nat} {i : Nat} (h : i < l.length) : i < tokEnd l i := by
  unfold tokEnd
  split
  · rename_i hw
    rw [run_step h hw]
    omega
  · omega
theorem tokEnd_le {l : List Nat} {i : Nat} (h : i < l.length) : tokEnd l i ≤ l.length := by
  unfold tokEnd
  split
  · exact run_le (Nat.le_of_lt h)
  · omega

structure Tok where
  n : Int
  c : Int
  i : Option Int
  s : Str
def Tok.vs (t : Tok) : List V := [.int t.n, .int t.c, (match t.i with | some i => .int i | none => .non), .str t.s]
def Tok.d (t : Tok) : PyData := .tuple [.int t.n, .int t.c, (match t.i with | some i => .int i | none => .none), .str t.s]
def cut (l : List Nat) (i j : Nat) : Str := ⟨((l.drop i).take (j - i)).toArray⟩
def nlS : Str := "\n"
/-- the tokens of a line from a place on: acc those so far, behind where the last one ended -/
def go (n : Int) (l : List Nat) (at' : Nat) (acc : List Tok) (behind : Nat) : List Tok :=
  if h : at' < l.length then
    if l.getD at' 0 = 32 then go n l (at' + 1) acc behind
    else go n l (tokEnd l at') (acc ++ [⟨n, (at' : Int) + 1, (if acc = [] then some (at' : Int) else none), cut l at' (tokEnd l at')⟩]) (tokEnd l at')
  else if acc = [] then [] else acc ++ [⟨n, (behind : Int) + 1, none, nlS⟩]
termination_by l.length - at'
decreasing_by
  · omega
  · have := tokEnd_gt h
    omega
end K3

set_option Elab.async false
set_option linter.all false
set_option maxRecDepth 100000
set_option maxHeartbeats 2000000
namespace K3
open PySem PySem.Spec PyProof.Rows L2
open TL (tl)
/-- what the walk asks of the module -/
structure Mg (mg : Str → Option Value) : Prop where
  len : mg "len" = none
  ws : ∃ t, mg "WORD_SIGNS" = some (.str WS t)
def spTE : Sp := fun vs H Q _ => ∃ (z : Str) (i : Nat), vs = [.str z, .int i] ∧ z.length ≤ 10000 ∧ i < z.length ∧ Q (.int (tokEnd (tl z) i : Nat)) H
theorem sign_at {z : Str} {i : Nat} (h : i < z.length) : z.cps[((i : Nat) : Int).toNat]? = some ((tl z).getD i 0) := by
  rw [Int.toNat_natCast]
  have h1 : i < z.cps.size := h
  rw [Array.getElem?_eq_getElem h1, List.getD_eq_getElem?_getD, List.getElem?_eq_getElem (by rw [Array.length_toList]; exact h1)]
  rfl
section
variable {P : Program} {w : World} {K : PySem.W.Frag} {mg : Str → Option Value} {base : Heap}
theorem scTE : FnScope ["line", "at"] ["line", "at"] (defScope sTE) := ⟨rfl, rfl, rfl, by decide +kernel, rfl, by decide +kernel, by decide +kernel⟩
theorem ok_TE {f : Addr} {fd : FuncData} (F : Fun K "_token_end" "_token_end" sTE f fd) (T : Mg mg) : FnOk P w K mg base CX0 1 f fd ["line", "at"] spTE := by
  refine F.ok scTE (fun vs H Q E h => ?_) (fun cdv A outer s H vs Q E hr h => ?_)
  · obtain ⟨z, i, rfl, _⟩ := h
    rfl
  · obtain ⟨z, i, rfl, hz, hi, k⟩ := h
    obtain ⟨tw, mw⟩ := T.ws
    have hlen : z.length = (tl z).length := TL.len_tl z
    have zs : z.length ≤ sizeLine := by rw [sizeLine_eq]; omega
    refine ⟨_, pss_cons (ps_if (pt_cmpR op_notIn_sign (pe_item_str (pv 0) (pv 1) (fun _ _ => rfl)) (pe_glob (v := .str WS) rfl mw ⟨_, rfl⟩) (by rfl)) (pss_one (ps_ret (pe_op op_add (pv 1) pe_int))) pss_nil)
      (pss_cons (ps_while PassesOwn.never (PW.pt (pw_and (pt_cmpR op_lt (pv 1) (pe_callB call_len_str (by rfl) T.len PySem.boot_len (pa_cons (pv 0) pa_nil)) (nomark _))
          (pw_and1 (pt_cmpR op_in_sign (pe_item_str (pv 0) (pv 1) (fun _ _ => rfl)) (pe_glob (v := .str WS) rfl mw ⟨_, rfl⟩) (by rfl)))))
        (pss_one (ps_aug (i := 1) scTE.nd rfl (.inl rfl) pe_int ip_add)))
      (pss_one (ps_ret (pv 1)))), ?_⟩
    refine ⟨_, rfl, _, rfl, z, i, _, rfl, rfl, by omega, by omega, by omega, sign_at (by omega), _, WS, rfl, rfl, _, rfl, ?_⟩
    cases hw : isW ((tl z).getD i 0) with
    | false =>
      have hw' : decide ((tl z).getD i 0 ∈ WS.cps.toList) = false := hw
      refine ifT (by rw [hw']; rfl) ?_
      refine ⟨_, rfl, _, _, rfl, rfl, ?_⟩
      have e : tokEnd (tl z) i = i + 1 := by unfold tokEnd; rw [hw]; rfl
      rw [e] at k
      exact k
    | true =>
      have hw' : decide ((tl z).getD i 0 ∈ WS.cps.toList) = true := hw
      refine ifF (by rw [hw']; rfl) ?_
      have e : tokEnd (tl z) i = i + (((tl z).drop i).takeWhile isW).length := by unfold tokEnd; rw [hw]; rfl
      rw [e] at k
      refine while_m (fun m σ H' => H' = H ∧ ∃ j : Nat, σ = [some (.str z), some (.int j)] ∧ j ≤ (tl z).length ∧ m = (tl z).length - j ∧ j + (((tl z).drop j).takeWhile isW).length = i + (((tl z).drop i).takeWhile isW).length)
        ((tl z).length - i) ⟨rfl, i, rfl, by omega, rfl, rfl⟩ ?_
      rintro m σ H' ⟨rfl, j, rfl, hj, rfl, ej⟩
      refine ⟨_, rfl, _, rfl, z, rfl, zs, _, _, rfl, rfl, _, rfl, ?_⟩
      by_cases c1 : j < z.length
      · refine ifT (decide_eq_true (by omega)) ?_
        refine ⟨_, rfl, _, rfl, z, j, _, rfl, rfl, by omega, by omega, by omega, sign_at (by omega), _, WS, rfl, rfl, _, rfl, ?_⟩
        cases hj2 : isW ((tl z).getD j 0) with
        | true =>
          refine ifT hj2 ?_
          refine ⟨_, fun _ _ h => h, _, rfl, _, _, rfl, rfl, (tl z).length - (j + 1), by omega, rfl, j + 1, rfl, by omega, rfl, ?_⟩
          rw [← ej, run_step (by omega) hj2]
        | false =>
          refine ifF hj2 ?_
          refine ⟨_, rfl, ?_⟩
          rw [← ej, run_stop (by omega) hj2] at k
          exact k
      · refine ifF (decide_eq_false (by omega)) ?_
        refine ifF rfl ?_
        refine ⟨_, rfl, ?_⟩
        rw [← ej, run_end (by omega)] at k
        exact k
end
end K3

set_option Elab.async false
set_option linter.all false
set_option maxRecDepth 100000
set_option maxHeartbeats 2000000
namespace K3
open PySem PySem.Spec PyProof.Rows L2
open TL (tl)
/-! ### heaps -/
/-- tuples stay -/
def KT (H H' : Hp) : Prop := ∀ b xs, H b = some (.tup xs) → H' b = some (.tup xs)
theorem KT.refl (H : Hp) : KT H H := fun _ _ h => h
theorem KT.trans {H H1 H2 : Hp} (a : KT H H1) (b : KT H1 H2) : KT H H2 := fun c xs h => b c xs (a c xs h)
theorem KT.of {H H' : Hp} (s : Same H H') : KT H H' := fun b xs h => s b _ h
theorem KT.new {H : Hp} {p : Addr} {o : HO} (h : H p = none) : KT H (upd H p o) := KT.of (same_new h)
theorem KT.put {H : Hp} {p : Addr} {xs : List V} {o : HO} (h : H p = some (.lst xs)) : KT H (upd H p o) := fun b ys e => by
  have n : b ≠ p := ne_of e h (by intro z; cases z)
  rw [upd_ne n]
  exact e
/-- a token as a tuple -/
def TokAt (H : Hp) (v : V) (t : Tok) : Prop := ∃ a, v = .ref a ∧ H a = some (.tup t.vs)
theorem TokAt.keep {H H' : Hp} (k : KT H H') {v : V} {t : Tok} (h : TokAt H v t) : TokAt H' v t := by
  obtain ⟨a, e, h⟩ := h
  exact ⟨a, e, k _ _ h⟩
theorem toks_keep {H H' : Hp} (k : KT H H') {xs : List V} {ts : List Tok} (h : Paired (TokAt H) xs ts) : Paired (TokAt H') xs ts := Paired.mapP h fun _ _ q => q.keep k
theorem sp_eq (c : Nat) : (V.str ⟨#[c]⟩ = V.str (" " : Str)) ↔ c = 32 := by
  have e : (" " : Str) = ⟨#[32]⟩ := by decide +kernel
  constructor
  · intro h
    injection h with h
    rw [e] at h
    injection h with h
    have := congrArg (·.toList) h
    simpa using this
  · intro h
    rw [h, e]
theorem cutS_cut {z : Str} {i j : Nat} (hi : i ≤ j) (hj : j ≤ z.length) : cutS z (some ((i : Nat) : Int)) (some ((j : Nat) : Int)) = cut (tl z) i j := by
  unfold cutS cut
  have h1 : HT.sIx z.length 0 (some ((i : Nat) : Int)) = i := by
    rw [HT.sIx_nat]
    omega
  have h2 : HT.sIx z.length z.length (some ((j : Nat) : Int)) = j := by
    rw [HT.sIx_nat]
    omega
  rw [h1, h2]
theorem go_blank {n : Int} {l : List Nat} {i : Nat} {acc : List Tok} {b : Nat} (h : i < l.length) (hb : l.getD i 0 = 32) : go n l i acc b = go n l (i + 1) acc b := by
  rw [go, dif_pos h, if_pos hb]
theorem go_tok {n : Int} {l : List Nat} {i : Nat} {acc : List Tok} {b : Nat} (h : i < l.length) (hb : l.getD i 0 ≠ 32) :
    go n l i acc b = go n l (tokEnd l i) (acc ++ [⟨n, (i : Int) + 1, (if acc = [] then some (i : Int) else none), cut l i (tokEnd l i)⟩]) (tokEnd l i) := by
  rw [go, dif_pos h, if_neg hb]
theorem go_end {n : Int} {l : List Nat} {i : Nat} {acc : List Tok} {b : Nat} (h : ¬ i < l.length) : go n l i acc b = if acc = [] then [] else acc ++ [⟨n, (b : Int) + 1, none, nlS⟩] := by
  rw [go, dif_neg h]
structure LTs (R : List Tok) (H : Hp) (n : Int) (z : Str) (p : Addr) (j b : Nat) (acc : List Tok) (xs : List V) (H' : Hp) : Prop where
  same : Same H H'
  new : H p = none
  lst : H' p = some (.lst xs)
  pr : Paired (TokAt H') xs acc
  hj : j ≤ (tl z).length
  hc : acc.length ≤ j
  eg : go n (tl z) j acc b = R
theorem LTs.len {R : List Tok} {H : Hp} {n : Int} {z : Str} {p : Addr} {j b : Nat} {acc : List Tok} {xs : List V} {H' : Hp} (S : LTs R H n z p j b acc xs H') : xs.length = acc.length := paired_len S.pr
theorem LTs.emp {R : List Tok} {H : Hp} {n : Int} {z : Str} {p : Addr} {j b : Nat} {acc : List Tok} {xs : List V} {H' : Hp} (S : LTs R H n z p j b acc xs H') : xs.isEmpty = acc.isEmpty := by
  have h := S.pr
  cases h with
  | nil => rfl
  | cons _ _ => rfl
theorem LTs.blank {R : List Tok} {H : Hp} {n : Int} {z : Str} {p : Addr} {j b : Nat} {acc : List Tok} {xs : List V} {H' : Hp} (S : LTs R H n z p j b acc xs H') (h : j < (tl z).length) (hb : (tl z).getD j 0 = 32) : LTs R H n z p (j + 1) b acc xs H' :=
  ⟨S.same, S.new, S.lst, S.pr, h, Nat.le_succ_of_le S.hc, by rw [← S.eg, go_blank h hb]⟩
def ixV : Option Int → V
  | some i => .int i
  | none => .non
theorem LTs.tok {R : List Tok} {H : Hp} {n : Int} {z : Str} {p : Addr} {j b : Nat} {acc : List Tok} {xs : List V} {H' : Hp} (S : LTs R H n z p j b acc xs H') (h : j < (tl z).length) (hb : (tl z).getD j 0 ≠ 32) {q : Addr} (hq : H' q = none)
    {vs : List V} (hv : vs = [V.int n, V.int ((j : Int) + 1), ixV (if acc = [] then some (j : Int) else none), V.str (cutS z (some (j : Int)) (some ((tokEnd (tl z) j : Nat) : Int)))]) :
    ∃ acc', LTs R H n z p (tokEnd (tl z) j) (tokEnd (tl z) j) acc' (xs ++ [.ref q]) (upd (upd H' q (.tup vs)) p (.lst (xs ++ [V.ref q]))) := by
  have hlen : z.length = (tl z).length := TL.len_tl z
  have hg := tokEnd_gt h
  have hle := tokEnd_le h
  have hpq : p ≠ q := ne_of_none S.lst hq
  have kt : KT H' (upd (upd H' q (.tup vs)) p (.lst (xs ++ [V.ref q]))) := (KT.new hq).trans (KT.put (xs := xs) (by rw [upd_ne hpq]; exact S.lst))
  refine ⟨_, ⟨fun c o e => ?_, S.new, upd_same, paired_app (toks_keep kt S.pr) (.cons (b := ⟨n, (j : Int) + 1, (if acc = [] then some (j : Int) else none), cut (tl z) j (tokEnd (tl z) j)⟩) ⟨q, rfl, ?_⟩ .nil), hle, ?_, ?_⟩⟩
  · rw [upd_ne (ne_of_none e S.new), upd_ne (ne_of_none (S.same _ _ e) hq)]
    exact S.same _ _ e
  · rw [upd_ne hpq.symm, upd_same, hv, cutS_cut (by omega) (by omega)]
    unfold Tok.vs
    congr 4
  · rw [List.length_append]
    have := S.hc
    show acc.length + 1 ≤ _
    omega
  · rw [← S.eg, go_tok h hb]
def lineToks (n : Int) (l : List Nat) : List Tok := go n l 0 [] 0
def spLT : Sp := fun vs H Q _ => ∃ (n : Int) (z : Str), vs = [.int n, .str z] ∧ z.length ≤ 10000 ∧
  ∀ (p : Addr) (xs : List V) (H' : Hp), Same H H' → H p = none → H' p = some (.lst xs) → Paired (TokAt H') xs (lineToks n (tl z)) → xs.length ≤ 10001 → Q (.ref p) H'
section
variable {X : Cx} {o e : Expr} {to te : TE} {apos cpos : Pos}
end
section
variable {P : Program} {w : World} {K : PySem.W.Frag} {mg : Str → Option Value} {base : Heap}
theorem scLT : FnScope ["number", "line", "tokens", "at", "behind", "indent"] ["number", "line"] (defScope sLT) := ⟨rfl, rfl, rfl, by decide +kernel, rfl, by decide +kernel, by decide +kernel⟩
structure MgLt (K : PySem.W.Frag) (mg : Str → Option Value) (fTE : Addr) : Prop extends Mg mg where
  te : mg "_token_end" = some (.ref fTE)
  kte : PySem.W.keepIn K (.ref fTE) = true
  el : ∃ t, mg "END_OF_LINE" = some (.str nlS t)
theorem ok_LT {f fTE : Addr} {fd fdTE : FuncData} (F : Fun K "_line_tokens" "_line_tokens" sLT f fd) (T : MgLt K mg fTE) (FTE : Fun K "_token_end" "_token_end" sTE fTE fdTE) (bTE : L2.Binds K fdTE ["line", "at"] []) : FnOk P w K mg base CX0 2 f fd ["number", "line"] spLT := by
  have GTE : FnOk P w K mg base CX0 1 fTE fdTE ["line", "at"] spTE := ok_TE FTE T.toMg
  refine F.ok scLT (fun vs H Q E h => ?_) (fun cdv A outer s H vs Q E hr h => ?_)
  · obtain ⟨n, z, rfl, _⟩ := h
    rfl
  · obtain ⟨n, z, rfl, hz, k⟩ := h
    obtain ⟨tw, mw⟩ := T.el
    have hlen : z.length = (tl z).length := TL.len_tl z
    have zs : z.length ≤ sizeLine := by rw [sizeLine_eq]; omega
    refine ⟨_, pss_cons (ps_set (i := 2) scLT.nd rfl (Or.inl rfl) (pe_lst pa_nil)) (pss_cons (ps_set (i := 3) scLT.nd rfl (Or.inl rfl) pe_int) (pss_cons (ps_set (i := 4) scLT.nd rfl (Or.inl rfl) pe_int)
      (pss_cons (ps_while PassesOwn.never (pt_cmpR op_lt (pv 3) (pe_callB call_len_str (by rfl) T.len PySem.boot_len (pa_cons (pv 1) pa_nil)) (nomark _))
        (pss_cons (ps_if (pt_cmpR op_eq (pe_item_str (pv 1) (pv 3) (fun _ _ => rfl)) pe_str (nomark _)) (pss_cons (ps_aug (i := 3) scLT.nd rfl (.inl rfl) pe_int ip_add) (pss_one ps_continue)) pss_nil)
        (pss_cons (ps_set (i := 4) scLT.nd rfl (Or.inl rfl) (pe_call GTE hr (by rfl) T.te T.kte bTE .nil pass0 (pa_cons (pv 1) (pa_cons (pv 3) pa_nil))))
        (pss_cons (ps_set (i := 5) scLT.nd rfl (Or.inl rfl) (pe_ifExp (pt_truth (pv 2) (by intro _; rfl)) pe_non (pv 3)))
        (pss_cons (ps_expr (qApp (pv 2) (pe_tup (pa_cons (pv 0) (pa_cons (pe_op op_add (pv 3) pe_int) (pa_cons (pv 5) (pa_cons (pe_slice sl_str (pv 1) (po_some (pv 3)) (po_some (pv 4))) pa_nil)))))))
        (pss_one (ps_set (i := 3) scLT.nd rfl (Or.inl rfl) (pv 4))))))))
      (pss_cons (ps_if (pt_truth (pv 2) (by intro _; rfl)) (pss_one (ps_expr (qApp (pv 2) (pe_tup (pa_cons (pv 0) (pa_cons (pe_op op_add (pv 4) pe_int) (pa_cons pe_non (pa_cons (pe_glob (v := .str nlS) (by rfl) mw ⟨_, rfl⟩) pa_nil)))))))) pss_nil)
      (pss_one (ps_ret (pv 2))))))), ?_⟩
    refine ⟨Nat.zero_le _, fun p hp => ?_⟩
    refine while_m (fun m σ H' => ∃ (j b : Nat) (acc : List Tok) (xs : List V) (iv : Option V), σ = [some (.int n), some (.str z), some (.ref p), some (.int j), some (.int b), iv] ∧ m = (tl z).length - j ∧ LTs (lineToks n (tl z)) H n z p j b acc xs H')
      (tl z).length ⟨0, 0, [], [], none, rfl, rfl, ⟨same_new hp, hp, upd_same, .nil, Nat.zero_le _, Nat.le_refl _, rfl⟩⟩ ?_
    rintro m σ H' ⟨j, b, acc, xs, iv, rfl, rfl, S⟩
    have hx0 := S.emp
    have hj := S.hj
    refine ⟨_, rfl, _, rfl, z, rfl, zs, _, _, rfl, rfl, _, rfl, ?_⟩
    by_cases c1 : j < z.length
    · refine ifT (decide_eq_true (by omega)) ?_
      refine ⟨_, fun _ _ h => h, ?_⟩
      refine ⟨_, rfl, _, rfl, z, j, _, rfl, rfl, by omega, by omega, by omega, sign_at (by omega), rfl, _, rfl, ?_⟩
      by_cases c2 : (tl z).getD j 0 = 32
      · refine ifT (decide_eq_true ((sp_eq _).mpr c2)) ?_
        refine ⟨_, rfl, _, _, rfl, rfl, ?_⟩
        exact ⟨(tl z).length - (j + 1), by omega, j + 1, b, acc, xs, iv, rfl, rfl, S.blank (by omega) c2⟩
      · refine ifF (decide_eq_false (fun h => c2 ((sp_eq _).mp h))) ?_
        have hg := tokEnd_gt (l := tl z) (i := j) (by omega)
        have hle := tokEnd_le (l := tl z) (i := j) (by omega)
        have hc := S.hc
        have hxl := S.len
        refine ⟨_, rfl, _, rfl, z, j, rfl, hz, by omega, ?_⟩
        refine ⟨_, rfl, !xs.isEmpty, .inl ⟨xs, SqL.of S.lst, rfl⟩, ?_⟩
        cases acc with
        | nil =>
          refine ifF (by rw [hx0]; rfl) ?_
          refine ⟨_, rfl, ?_⟩
          refine ⟨_, rfl, .inl ⟨rfl, _, SqL.of S.lst⟩, ?_⟩
          refine ⟨_, rfl, _, rfl, _, _, rfl, rfl, _, rfl, _, rfl, _, rfl, _, rfl, _, rfl, _, rfl, z, rfl, zs, (by show 4 ≤ sizeLine; decide), fun q hq => ?_⟩
          obtain ⟨acc', S'⟩ := S.tok (by omega) c2 hq rfl
          refine ⟨p, xs, .ref q, rfl, rfl, (by rw [upd_ne (ne_of_none S.lst hq)]; exact S.lst), (by rw [sizeLine_eq, hxl]; show 0 < _; omega), ?_⟩
          refine ⟨_, rfl, ?_⟩
          exact ⟨_, by omega, _, _, _, _, _, rfl, rfl, S'⟩
        | cons a r =>
          refine ifT (by rw [hx0]; rfl) ?_
          refine ⟨_, rfl, .inl ⟨rfl, _, SqL.of S.lst⟩, ?_⟩
          refine ⟨_, rfl, _, rfl, _, _, rfl, rfl, _, rfl, _, rfl, _, rfl, _, rfl, _, rfl, _, rfl, z, rfl, zs, (by show 4 ≤ sizeLine; decide), fun q hq => ?_⟩
          obtain ⟨acc', S'⟩ := S.tok (by omega) c2 hq rfl
          refine ⟨p, xs, .ref q, rfl, rfl, (by rw [upd_ne (ne_of_none S.lst hq)]; exact S.lst), (by rw [sizeLine_eq, hxl]; omega), ?_⟩
          refine ⟨_, rfl, ?_⟩
          exact ⟨_, by omega, _, _, _, _, _, rfl, rfl, S'⟩
    · refine ifF (decide_eq_false (by omega)) ?_
      have hc := S.hc
      have hxl := S.len
      have ge := go_end (n := n) (b := b) (acc := acc) (show ¬ j < (tl z).length by omega)
      have eg := S.eg
      refine ⟨_, rfl, !xs.isEmpty, .inl ⟨xs, SqL.of S.lst, rfl⟩, ?_⟩
      cases acc with
      | nil =>
        refine ifF (by rw [hx0]; rfl) ?_
        refine ⟨_, rfl, k p xs H' S.same hp S.lst ?_ (by rw [hxl]; exact Nat.zero_le _)⟩
        rw [ge, if_pos rfl] at eg
        rw [← eg]
        exact S.pr
      | cons a r =>
        refine ifT (by rw [hx0]; rfl) ?_
        refine ⟨_, rfl, .inl ⟨rfl, _, SqL.of S.lst⟩, ?_⟩
        refine ⟨_, rfl, _, rfl, _, _, rfl, rfl, (by show 4 ≤ sizeLine; decide), fun q hq => ?_⟩
        have hpq : p ≠ q := ne_of_none S.lst hq
        refine ⟨p, xs, .ref q, rfl, rfl, (by rw [upd_ne hpq]; exact S.lst), (by rw [sizeLine_eq, hxl]; omega), ?_⟩
        have kt : ∀ o, KT H' (upd (upd H' q o) p (.lst (xs ++ [V.ref q]))) := fun o => (KT.new hq).trans (KT.put (xs := xs) (by rw [upd_ne hpq]; exact S.lst))
        refine ⟨_, rfl, k p _ _ (fun c o e => ?_) hp upd_same ?_ (by rw [List.length_append, hxl]; show _ + 1 ≤ _; omega)⟩
        · rw [upd_ne (ne_of_none e hp), upd_ne (ne_of_none (S.same _ _ e) hq)]
          exact S.same _ _ e
        · rw [ge, if_neg (by simp)] at eg
          rw [← eg]
          refine paired_app (toks_keep (kt _) S.pr) (.cons ⟨q, rfl, ?_⟩ .nil)
          rw [upd_ne hpq.symm, upd_same]
          rfl
end
end K3

set_option Elab.async false
set_option linter.all false
set_option maxRecDepth 100000
set_option maxHeartbeats 2000000
namespace K3
open PySem PySem.Spec PyProof.Rows L2
open TL (tl)
/-! ### C.__init__(self, ..), C an own class that has ValueError's -/
structure CeC (K : PySem.W.Frag) (C : Addr) : Prop where
  rd : PySem.W.readsIn K C (.type "type") = true
  ga : PySem.W.specialIn K (.ref C) "__getattribute__" = some (some (.builtin "type.__getattribute__"))
  at_ : PySem.W.findCls K (.ref C) (.type "type") "__init__" = some (.val (.builtin "ValueError.__init__"))
section
variable {X : Cx} {o e : Expr} {es : List Expr} {to te : TE} {ta : TA} {f : Str} {p p' p1 p2 pos : Pos}
theorem pe_cinit {CE : Addr} {cn : Str} {pl : Sem Bool} (hg : Gl X cn) (hm : X.mg cn = some (.ref CE)) (T0 : CeC X.K CE) (ha : PA X (e :: es) ta) (hdb : (cn == ("__debug__" : Str)) = false := by decide)
    (hc : eval (.Call (.Attribute (.Name cn p1) "__init__" p2) (e :: es) [] pos) X.env = (do
      let ov ← eval (.Name cn p1) X.env
      standAt p2.atName
      let (f, first) ← holding [ov] (getMethod ov "__init__" pl)
      callWith pos f first (backTo pos (starEach (e :: es) X.env)) (backToKw pos (keywordEach [] X.env))) := by rfl)
    (he : starEach (e :: es) X.env = (false, eval e X.env) :: starEach es X.env := by rfl) (hpl : (backTo pos (starEach es X.env)).any (·.1) = false := by rfl) :
    PE X (.Call (.Attribute (.Name cn p1) "__init__" p2) (e :: es) [] pos) (tVeI X.K ta) := by
  refine ⟨fun pins s σ H Q I h => ?_⟩
  refine PySem.W.methodCall_KW (ld_glob I hg hm ?_ hdb) hc
  refine PySem.W.method_cls I.kIn T0.ga (PySem.W.cls_value I.kIn T0.rd T0.at_ (by decide +kernel) ?_)
  show wpAny _ _ (callWith pos (Value.builtin "ValueError.__init__") [] (backTo pos (starEach (e :: es) X.env)) []) _ _ _
  refine PyProof.Rows.callWith_method1 (thn (ha.run pos pins _ σ H _ (I.tok _) h) fun us s1 ⟨vs, H1, I1, r1, a, C, ws, ev, hl, T, ea, q⟩ => ?_) he hpl
  subst ev
  cases r1 with
  | @cons _ u0 _ ur ra rw' =>
    obtain rfl : u0 = Value.ref a := ra
    have hlen : ur.length ≤ sizeLine := by
      rw [← Paired.length rw', sizeLine_eq]
      omega
    exact oinit_ok T I1 ea hlen fun s' J => ⟨.non, H1, J, rfl, q⟩
end
/-- BadText.__init__(self, line, column) -/
def spInit (K : PySem.W.Frag) (C : Addr) : Sp := fun vs H Q _ => ∃ (a : Addr) (l c : V), vs = [.ref a, l, c] ∧ H a = some (exo a C none) ∧
  ∀ (d : Addr) (H' : Hp), H d = none → d ≠ a → H' a = some (exo a C (some d)) → H' d = some (exd d [("column", c), ("line", l)]) → (∀ b, b ≠ a → b ≠ d → H' b = H b) → Q .non H'
/-- what the text says of the two classes -/
structure MgC (K : PySem.W.Frag) (mg : Str → Option Value) (CE C : Addr) : Prop where
  mCE : mg "ClockError" = some (.ref CE)
  ce : CeC K CE
  ox : OexC K C
  nl : PySem.W.findIn K (.ref C) "line" = some none
  nc : PySem.W.findIn K (.ref C) "column" = some none
section
variable {P : Program} {w : World} {K : PySem.W.Frag} {mg : Str → Option Value} {base : Heap}
theorem scI : FnScope ["self", "line", "column"] ["self", "line", "column"] (defScope sInit) := ⟨rfl, rfl, rfl, by decide +kernel, rfl, by decide +kernel, by decide +kernel⟩
theorem ok_init {f CE C : Addr} {fd : FuncData} (F : Fun K "__init__" "BadText.__init__" sInit f fd) (T : MgC K mg CE C) : FnOk P w K mg base CX0 1 f fd ["self", "line", "column"] (spInit K C) := by
  refine F.ok scI (fun vs H Q E h => ?_) (fun cdv A outer s H vs Q E hr h => ?_)
  · obtain ⟨a, l, c, rfl, _⟩ := h
    rfl
  · obtain ⟨a, l, c, rfl, ha, k⟩ := h
    refine ⟨_, pss_cons (ps_expr (pe_cinit (by rfl) T.mCE T.ce (pa_cons (pv 0) (pa_cons pe_str pa_nil)))) (pss_cons (ps_ost (pv 0) (pv 1)) (pss_one (ps_ost (pv 0) (pv 2)))), ?_⟩
    refine ⟨_, rfl, a, C, [_], rfl, (by decide), T.ox, ha, ?_⟩
    refine ⟨_, rfl, _, rfl, a, C, rfl, T.ox, T.nl, .inl ⟨ha, fun dx ndx dne => ?_⟩⟩
    have h1 : (upd (upd H dx (exd dx [("line", l)])) a (exo a C (some dx))) dx = some (exd dx [("line", l)]) := by rw [upd_ne dne, upd_same]
    refine ⟨_, rfl, _, rfl, a, C, rfl, T.ox, T.nc, .inr ⟨dx, [("line", l)], upd_same, h1, (by show 1 ≤ 900; decide), ?_⟩⟩
    refine k dx _ ndx dne (by rw [upd_ne dne.symm, upd_same]) upd_same fun b ha' hd' => ?_
    rw [upd_ne hd', upd_ne ha', upd_ne hd']
end
end K3

set_option Elab.async false
set_option linter.all false
set_option maxRecDepth 100000
set_option maxHeartbeats 2000000
namespace K3
open PySem PySem.Spec PyProof.Rows L2
open TL (tl spl par pre)
/-! ### enumerate -/
theorem for_enum {K : PySem.W.Frag} {a : Addr} {xs : List V} {g : TG} {tb : TS} {D : Ends} {σ : L2.St} {H : Hp} (Pv : Nat → L2.St → Hp → Prop) (h0 : Pv 0 σ H) (hl : ∀ i σ H, i ≤ xs.length → Pv i σ H → SqL K H a xs)
    (hs : ∀ i x T σ H, xs[i]? = some x → Pv i σ H → H T = none → g (.ref T) σ (upd H T (.tup [.int (i : Nat), x])) fun σ2 H2 => tb { D with nx := Pv (i + 1), ct := Pv (i + 1), bk := D.nx } σ2 H2) (hd : ∀ σ H, Pv xs.length σ H → D.nx σ H) :
    ∃ W : Nat → Nat → L2.St → Hp → Prop, (∃ m, W 0 m σ H) ∧ ∀ i m σ H, W i m σ H →
      ((Ite K a).stop i H ∧ D.nx σ H) ∨ ((Ite K a).go i H ∧ ∃ N : L2.St → Hp → Prop, (∀ σ' H', N σ' H' → ∃ m', m' < m ∧ W (i + 1) m' σ' H') ∧ ∀ x H', (Ite K a).yld i H x H' → g x σ H' fun σ2 H2 => tb { D with nx := N, ct := N, bk := D.nx } σ2 H2) := by
  refine ⟨fun i m σ H => m = xs.length - i ∧ i ≤ xs.length ∧ Pv i σ H, ⟨xs.length, by simp, Nat.zero_le _, h0⟩, ?_⟩
  rintro i m σ H ⟨rfl, hi, p⟩
  have q := hl i σ H hi p
  by_cases hlt : i < xs.length
  · refine .inr ⟨⟨xs, xs[i], q, by simp [hlt]⟩, Pv (i + 1), fun σ' H' p' => ⟨xs.length - (i + 1), by omega, rfl, hlt, p'⟩, fun v H' y => ?_⟩
    obtain ⟨T, x, rfl, hT, rfl, hx⟩ := y
    exact hs i x T σ H (hx xs q) p hT
  · have e : i = xs.length := by omega
    subst e
    exact .inl ⟨⟨xs, q, Nat.le_refl _⟩, hd σ H p⟩
/-! ### split and partition -/
theorem spl_len (S : List Nat) : ∀ (l : List Nat) (k : Nat) (acc : List Nat), (spl S k acc l).length ≤ l.length + 1
  | [], k, acc => by cases k <;> exact Nat.le_refl _
  | c :: r, 0, acc => by
    unfold spl
    split
    · have := spl_len S r (S.length - 1) []
      simp only [List.length_cons]
      omega
    · have := spl_len S r 0 (acc ++ [c])
      simp only [List.length_cons]
      omega
  | c :: r, k + 1, acc => by
    unfold spl
    have := spl_len S r k acc
    simp only [List.length_cons]
    omega
theorem spl_part_len (S : List Nat) : ∀ (l : List Nat) (k : Nat) (acc : List Nat), ∀ p ∈ spl S k acc l, p.length ≤ acc.length + l.length
  | [], k, acc => by
    intro p hp
    have e : spl S k acc [] = [acc] := by cases k <;> rfl
    rw [e] at hp
    have := List.mem_singleton.mp hp
    subst this
    simp
  | c :: r, 0, acc => by
    intro p hp
    unfold spl at hp
    split at hp
    · rcases List.mem_cons.mp hp with h | h
      · subst h; omega
      · have := spl_part_len S r (S.length - 1) [] p h
        simp only [List.length_cons, List.length_nil] at *
        omega
    · have := spl_part_len S r 0 (acc ++ [c]) p hp
      simp only [List.length_cons, List.length_append, List.length_nil] at *
      omega
  | c :: r, k + 1, acc => by
    intro p hp
    unfold spl at hp
    have := spl_part_len S r k acc p hp
    simp only [List.length_cons] at *
    omega
def etS : Str := ""
def hash : Str := "#"
theorem tl_nl : tl nlS = [10] := by decide +kernel
theorem tl_hash : tl hash = [35] := by decide +kernel
theorem nl_kind (x : Str) : ¬ Builtin.Str.strKind x < Builtin.Str.strKind nlS := TL.kind_ok (by decide +kernel)
theorem hash_kind (x : Str) : ¬ Builtin.Str.strKind x < Builtin.Str.strKind hash := TL.kind_ok (by decide +kernel)
theorem rows_len (z : Str) : (Txt.split z nlS).length ≤ z.length + 1 := by
  have h := TL.split_spl z nlS (by rw [tl_nl]; simp) (nl_kind z)
  have h1 := spl_len (tl nlS) (tl z) 0 []
  rw [← h, List.length_map] at h1
  rw [TL.len_tl z]
  exact h1
theorem row_len {z r : Str} (hr : r ∈ Txt.split z nlS) : r.length ≤ z.length := by
  have h := TL.split_spl z nlS (by rw [tl_nl]; simp) (nl_kind z)
  have h1 := spl_part_len (tl nlS) (tl z) 0 [] (tl r) (by rw [← h]; exact List.mem_map.mpr ⟨r, hr, rfl⟩)
  rw [TL.len_tl z, TL.len_tl r]
  simpa using h1
/-- a row up to its remark -/
def bodyOf (x : Str) : Str := (Txt.partition x hash).1
theorem par_len (S : List Nat) : ∀ (l acc a b : List Nat), par S acc l = some (a, b) → a.length ≤ acc.length + l.length
  | [], acc, a, b => by
    intro h
    cases h
  | c :: r, acc, a, b => by
    intro h
    unfold par at h
    split at h
    · have h1 := Option.some.inj h
      have h2 : acc = a := congrArg Prod.fst h1
      subst h2
      omega
    · have := par_len S r (acc ++ [c]) a b h
      simp only [List.length_cons, List.length_append, List.length_nil] at *
      omega
theorem body_len (x : Str) : (bodyOf x).length ≤ x.length := by
  unfold bodyOf
  rw [TL.partition_par x hash (by rw [tl_hash]; simp)]
  cases e : par (tl hash) [] (tl x) with
  | none => exact Nat.le_refl _
  | some p =>
    obtain ⟨a, b⟩ := p
    have h := par_len _ _ _ _ _ e
    show a.toArray.size ≤ _
    rw [TL.len_tl x]
    simpa using h
theorem spl_head {S : List Nat} : ∀ (l acc : List Nat), (spl S 0 acc l)[0]? = some (match par S acc l with | some (a, _) => a | none => acc ++ l)
  | [], acc => by
    show some acc = some (acc ++ [])
    rw [List.append_nil]
  | c :: r, acc => by
    unfold spl par
    split
    · rfl
    · rw [spl_head r (acc ++ [c])]
      cases par S (acc ++ [c]) r with
      | some p => rfl
      | none =>
        show some (acc ++ [c] ++ r) = some (acc ++ c :: r)
        rw [List.append_assoc]
        rfl
/-- what split gives first is what partition gives first -/
theorem split_head (x : Str) : (Txt.split x hash)[0]? = some (bodyOf x) := by
  have h := TL.split_spl x hash (by rw [tl_hash]; simp) (hash_kind x)
  have h1 := spl_head (S := tl hash) (tl x) []
  rw [← h, List.getElem?_map] at h1
  cases e : (Txt.split x hash)[0]? with
  | none =>
    rw [e] at h1
    cases h1
  | some y =>
    rw [e] at h1
    have h2 := Option.some.inj h1
    congr 1
    refine TL.ext_tl ?_
    rw [h2]
    unfold bodyOf
    rw [TL.partition_par x hash (by rw [tl_hash]; simp)]
    cases par (tl hash) [] (tl x) with
    | some p => rfl
    | none => exact List.nil_append _
/-! ### the tokens of a text -/
def rowsToks : Nat → List Str → List Tok
  | _, [] => []
  | i, r :: rs => lineToks ((i : Int) + 1) (tl (bodyOf r)) ++ rowsToks (i + 1) rs
def allToks (z : Str) : List Tok := rowsToks 0 (Txt.split z nlS) ++ [⟨((Txt.split z nlS).length : Int) + 1, 1, none, etS⟩]
end K3

set_option Elab.async false
set_option linter.all false
set_option maxRecDepth 100000
set_option maxHeartbeats 2000000
namespace K3
open PySem PySem.Spec PyProof.Rows L2
open TL (tl)
def spTO (K : PySem.W.Frag) (C : Addr) : Sp := fun vs H Q E =>
  (∃ z : Str, vs = [.str z] ∧ z.length ≤ 10000 ∧ (Txt.split z nlS).length ≤ 1500 ∧ ∀ (p : Addr) (xs : List V) (H' : Hp), Same H H' → H p = none → H' p = some (.lst xs) → Paired (TokAt H') xs (allToks z) → xs.length ≤ 16000000 → Q (.ref p) H') ∨
  (∃ (v : V) (t : Value), vs = [v] ∧ TyX K H v t ∧ PySem.W.kitOne K t (.type "str") = some false ∧ ∀ (d : Addr) (H' : Hp), Same H H' → H d = none → H' d = some (.xd [("column", .int 1), ("line", .int 1)]) → E (.ref C) (some d) H')
structure MgT (K : PySem.W.Frag) (mg : Str → Option Value) (CE C fI fTE fLT : Addr) : Prop extends MgC K mg CE C, MgLt K mg fTE where
  mC : mg "BadText" = some (.ref C)
  iC : PySem.W.findIn K (.ref C) "__init__" = some (some (.ref fI))
  tI : PySem.W.typeIn K (.ref fI) = some (.type "function")
  lt : mg "_line_tokens" = some (.ref fLT)
  klt : PySem.W.keepIn K (.ref fLT) = true
  isi : mg "isinstance" = none
  str : mg "str" = none
  enu : mg "enumerate" = none
  et : ∃ t, mg "END_OF_TEXT" = some (.str etS t)
section
variable {X : Cx} {o e : Expr} {to te : TE} {apos cpos : Pos}
theorem qExt (ho : PE X o to) (he : PE X e te) (hbase : attributeBase o "extend" X.env (eval o X.env) = eval o X.env := by rfl)
    (hfew : ((backTo cpos (starEach (e :: []) X.env)).all (fun x => !x.1) && (backToKw cpos (keywordEach [] X.env)).all (fun x => x.1.isSome)
      && decide ((e :: ([] : List Expr)).length + ([] : List Keyword).length + (if ([] : List Keyword).isEmpty then 0 else 1) < 30)) = true := by rfl)
    (hline : (apos.endLine == cpos.line) = true := by rfl) (hs : starEach (e :: []) X.env = (false, eval e X.env) :: starEach [] X.env := by rfl) (hplain : (backTo cpos (starEach [] X.env)).any (·.1) = false := by rfl) :
    PE X (.Call (.Attribute o "extend" apos) [e] [] cpos) (tBM X.K "list" rExtend to (tCons te tNil)) :=
  pe_bm PySem.F.plainAttrs_list PySem.F.slot_list_extend PySem.F.type_list_extend mt_extend ho (pa_cons he pa_nil hs) hbase hfew hline hs hplain
end
theorem rowsToks_step {i : Nat} {rows : List Str} {r : Str} (h : rows[i]? = some r) : rowsToks i (rows.drop i) = lineToks ((i : Int) + 1) (tl (bodyOf r)) ++ rowsToks (i + 1) (rows.drop (i + 1)) := by
  obtain ⟨h1, h2⟩ := List.getElem?_eq_some_iff.mp h
  rw [List.drop_eq_getElem_cons h1, h2]
  rfl
structure TOs (H : Hp) (rows : List Str) (L p : Addr) (i : Nat) (acc : List Tok) (xs : List V) (H' : Hp) : Prop where
  same : Same H H'
  nL : H L = none
  np : H p = none
  rws : H' L = some (.lst (rows.map V.str))
  lst : H' p = some (.lst xs)
  pr : Paired (TokAt H') xs acc
  eg : acc ++ rowsToks i (rows.drop i) = rowsToks 0 rows
  cnt : xs.length ≤ i * 10001
theorem TOs.ne {H : Hp} {rows : List Str} {L p : Addr} {i : Nat} {acc : List Tok} {xs : List V} {H' : Hp} (S : TOs H rows L p i acc xs H') (h : L ≠ p) {q : Addr} {r : Str} (hr : rows[i]? = some r) {ys : List V} {H1 : Hp}
    (s1 : Same H' H1) (h1 : H1 q = some (.lst ys)) (hq : H' q = none) (pr : Paired (TokAt H1) ys (lineToks ((i : Int) + 1) (tl (bodyOf r)))) (hy : ys.length ≤ 10001) :
    TOs H rows L p (i + 1) (acc ++ lineToks ((i : Int) + 1) (tl (bodyOf r))) (xs ++ ys) (upd H1 p (.lst (xs ++ ys))) := by
  have hp1 := s1 _ _ S.lst
  have kt : KT H1 (upd H1 p (.lst (xs ++ ys))) := KT.put hp1
  refine ⟨fun c o e => ?_, S.nL, S.np, ?_, upd_same, paired_app (toks_keep ((KT.of s1).trans kt) S.pr) (toks_keep kt pr), ?_, ?_⟩
  · rw [upd_ne (ne_of_none e S.np)]
    exact s1 _ _ (S.same _ _ e)
  · rw [upd_ne h]
    exact s1 _ _ S.rws
  · rw [List.append_assoc, ← rowsToks_step hr]
    exact S.eg
  · rw [List.length_append]
    have := S.cnt
    omega
section
variable {P : Program} {w : World} {K : PySem.W.Frag} {mg : Str → Option Value} {base : Heap}
theorem scTO : FnScope ["text", "lines", "tokens", "at", "line"] ["text"] (defScope sTO) := ⟨rfl, rfl, rfl, by decide +kernel, rfl, by decide +kernel, by decide +kernel⟩
theorem ok_TO {f CE C fI fTE fLT : Addr} {fd fdI fdTE fdLT : FuncData} (F : Fun K "tokens_of" "tokens_of" sTO f fd) (T : MgT K mg CE C fI fTE fLT)
    (FI : Fun K "__init__" "BadText.__init__" sInit fI fdI) (bI : L2.Binds K fdI ["self", "line", "column"] []) (FTE : Fun K "_token_end" "_token_end" sTE fTE fdTE) (bTE : L2.Binds K fdTE ["line", "at"] [])
    (FLT : Fun K "_line_tokens" "_line_tokens" sLT fLT fdLT) (bLT : L2.Binds K fdLT ["number", "line"] []) : FnOk P w K mg base (L2.CX P w) 3 f fd ["text"] (spTO K C) := by
  have GI : FnOk P w K mg base CX0 1 fI fdI ["self", "line", "column"] (spInit K C) := ok_init FI T.toMgC
  have GLT : FnOk P w K mg base CX0 2 fLT fdLT ["number", "line"] spLT := ok_LT FLT T.toMgLt FTE bTE
  refine F.okX scTO (fun vs H Q E h => ?_) (fun cdv A outer s H vs Q E hr h => ?_)
  · rcases h with ⟨z, rfl, _⟩ | ⟨v, t, rfl, _⟩ <;> rfl
  · obtain ⟨te, me⟩ := T.et
    refine ⟨_, pss_cons (ps_if (pt_not (pt_val (pe_callB call_isi (by rfl) T.isi (by decide +kernel) (pa_cons (pv 0) (pa_cons (pe_bltn (v := .ty "str") (by rfl) T.str boot_str rfl) pa_nil)))))
        (pss_one (ps_raise rfl (takes_of rfl rfl rfl rfl) (pmk_oex T.ox T.iC T.tI GI hr bI .nil pass0 (by rfl) T.mC (pa_cons pe_int (pa_cons pe_int pa_nil))))) pss_nil)
      (PSs.nox (pss_cons (ps_set (i := 1) scTO.nd rfl (Or.inl rfl) (pe_split (pv 0) pe_str))
      (pss_cons (ps_set (i := 2) scTO.nd rfl (Or.inl rfl) (pe_lst pa_nil))
      (pss_cons (ps_for PassesOwn.never rfl (pi_enum (by rfl) T.enu (pa_cons (pv 1) pa_nil)) (pg_tup rfl (pgs_cons (pg_name (i := 3) scTO.nd rfl (Or.inl rfl)) (pgs_cons (pg_name (i := 4) scTO.nd rfl (Or.inl rfl)) pgs_nil)))
        (pss_one (ps_expr (qExt (pv 2) (pe_call GLT hr (by rfl) T.lt T.klt bLT .nil pass0 (pa_cons (pe_op op_add (pv 3) pe_int) (pa_cons (pe_ix ix_tup (pe_partition (pv 4) pe_str) pe_int (fun _ _ => rfl)) pa_nil)))))))
      (pss_cons (ps_expr (qApp (pv 2) (pe_tup (pa_cons (pe_op op_add (pe_callB call_len_seq (by rfl) T.len PySem.boot_len (pa_cons (pv 1) pa_nil)) pe_int) (pa_cons pe_int (pa_cons pe_non (pa_cons (pe_glob (v := .str etS) (by rfl) me ⟨_, rfl⟩) pa_nil)))))))
      (pss_one (ps_ret (pv 2)))))))), ?_⟩
    rcases h with ⟨z, rfl, hz, hzr, k⟩ | ⟨v, t, rfl, ht, hk, k⟩
    · have zs : z.length + 2 ≤ sizeLine := by rw [sizeLine_eq]; omega
      refine ⟨_, rfl, _, _, _, _, true, rfl, .ty "str", .base (.str z), kit_ty (by decide +kernel), _, rfl, ?_⟩
      refine ifF rfl ?_
      refine ⟨_, rfl, ⟨_, rfl⟩, z, nlS, rfl, rfl, (by decide +kernel), zs, fun L hL => ?_⟩
      refine ⟨Nat.zero_le _, fun p hp => ?_⟩
      have hLp : L ≠ p := ne_of_none upd_same hp
      have hpH : H p = none := (same_new hL).free hp
      refine ⟨_, rfl, L, (Txt.split z nlS).map V.str, rfl, SqL.of (by rw [upd_ne hLp, upd_same]), for_enum (K := K) (a := L) (xs := (Txt.split z nlS).map V.str)
        (fun i σ H' => ∃ (acc : List Tok) (xs : List V) (av lv : Option V), σ = [some (.str z), some (.ref L), some (.ref p), av, lv] ∧ TOs H (Txt.split z nlS) L p i acc xs H')
        ⟨[], [], none, none, rfl, (same_new hL).trans (same_new hp), hL, hpH, by rw [upd_ne hLp, upd_same], upd_same, .nil, rfl, Nat.zero_le _⟩
        (fun i σ H' _ ⟨_, _, _, _, _, S⟩ => SqL.of S.rws) ?_ ?_⟩
      · rintro i x Ta σ H' hi ⟨acc, xs, av, lv, rfl, S⟩ hT
        rw [List.getElem?_map] at hi
        obtain ⟨r, hr, rfl⟩ := Option.map_eq_some_iff.mp hi
        have hrl : r.length ≤ z.length := row_len (List.mem_of_getElem? hr)
        have hbl := body_len r
        have hil : i < (Txt.split z nlS).length := (List.getElem?_eq_some_iff.mp hr).1
        have hn := rows_len z
        refine ⟨Ta, _, rfl, .inl (.inl upd_same), (by rfl), _, _, rfl, _, _, rfl, rfl, ?_⟩
        refine ⟨_, rfl, .inl ⟨rfl, _, SqL.of (by rw [upd_ne (ne_of_none S.lst hT)]; exact S.lst)⟩, ?_⟩
        refine ⟨_, rfl, _, _, rfl, rfl, ?_⟩
        refine ⟨_, rfl, ⟨_, rfl⟩, r, hash, rfl, rfl, (by decide +kernel), (by rw [sizeLine_eq]; omega), fun q hq => ?_⟩
        refine ⟨q, _, 0, _, rfl, rfl, .inl (.inl upd_same), atI_nat (j := 0) rfl, ?_⟩
        have sc := (same_new (o := .tup [V.int (i : Nat), V.str r]) hT).trans (same_new (o := .tup [.str (Txt.partition r hash).1, .str (Txt.partition r hash).2.1, .str (Txt.partition r hash).2.2]) hq)
        refine ⟨(i : Int) + 1, bodyOf r, rfl, by omega, fun b ys H1 s1 hb1 hb2 pr hy => ?_⟩
        have hc := S.cnt
        refine ⟨p, b, xs, ys, rfl, rfl, s1 _ _ (sc _ _ S.lst), hb2, ?_, ?_⟩
        · rw [sizeLine_eq]
          have : i * 10001 ≤ 1500 * 10001 := Nat.mul_le_mul_right _ (by omega)
          omega
        · exact ⟨_, _, _, _, rfl, S.ne hLp hr (sc.trans s1) hb2 (sc.free hb1) pr hy⟩
      · rw [List.length_map]
        rintro σ H' ⟨acc, xs, av, lv, rfl, S⟩
        have hc := S.cnt
        have hn := rows_len z
        have hcl : (Txt.split z nlS).length * 10001 ≤ 1500 * 10001 := Nat.mul_le_mul_right _ (by omega)
        have eg := S.eg
        rw [List.drop_length] at eg
        have eg : acc ++ [] = rowsToks 0 (Txt.split z nlS) := eg
        rw [List.append_nil] at eg
        refine ⟨_, rfl, .inl ⟨rfl, _, SqL.of S.lst⟩, ?_⟩
        refine ⟨_, rfl, L, _, rfl, .inl (SqL.of S.rws), _, _, rfl, rfl, (by show 4 ≤ sizeLine; decide), fun q hq => ?_⟩
        have hpq : p ≠ q := ne_of_none S.lst hq
        refine ⟨p, xs, .ref q, rfl, rfl, (by rw [upd_ne hpq]; exact S.lst), (by rw [sizeLine_eq]; omega), ?_⟩
        have kt : ∀ o, KT H' (upd (upd H' q o) p (.lst (xs ++ [V.ref q]))) := fun o => (KT.new hq).trans (KT.put (xs := xs) (by rw [upd_ne hpq]; exact S.lst))
        refine ⟨_, rfl, k p _ _ (fun c o e => ?_) hpH upd_same ?_ (by rw [List.length_append]; show _ + 1 ≤ _; omega)⟩
        · rw [upd_ne (ne_of_none e hpH), upd_ne (ne_of_none (S.same _ _ e) hq)]
          exact S.same _ _ e
        · unfold allToks
          rw [← eg]
          refine paired_app (toks_keep (kt _) S.pr) (.cons ⟨q, rfl, ?_⟩ .nil)
          rw [upd_ne hpq.symm, upd_same, List.length_map]
          rfl
    · refine ⟨_, rfl, _, _, t, _, false, rfl, .ty "str", ht, hk, _, rfl, ?_⟩
      refine ifT rfl ?_
      refine ⟨(by show 2 ≤ 1000; decide), fun a ha => ?_⟩
      refine ⟨a, .int 1, .int 1, rfl, upd_same, fun d H' hd hda h1 h2 hk2 => ⟨rfl, d, _, h1, h2, ?_, ?_⟩⟩
      · rw [upd_ne hda] at hd
        exact hd
      · rw [upd_ne hda] at hd
        refine k d _ (fun b o e => ?_) hd upd_same
        have hba : b ≠ a := ne_of_none e ha
        have hbd : b ≠ d := ne_of_none e hd
        rw [upd_ne hbd, del_ne hba, hk2 b hba hbd, upd_ne hba]
        exact e
end
end K3

set_option Elab.async false
set_option linter.all false
set_option pp.maxSteps 700
set_option maxRecDepth 100000
set_option maxHeartbeats 2000000
namespace K3
open PySem PySem.Spec PyProof.Rows L2
open TL (tl)
abbrev sGT : Stmt := top 61
def spGT : Sp := fun vs H Q E =>
  ∃ z : Str, vs = [.str z] ∧ z.length ≤ 10000 ∧ (Txt.split z nlS).length ≤ 1500 ∧ ∀ (p : Addr) (xs : List V) (H' : Hp), Same H H' → H p = none → H' p = some (.lst xs) → Paired (TokAt H') xs (allToks z) → xs.length ≤ 16000000 → Q (.ref p) H'
structure MgG (mg : Str → Option Value) : Prop where
  len : mg "len" = none
  enu : mg "enumerate" = none
theorem isW_sp : isW 32 = false := by decide +kernel
theorem tokEnd_sp {l : List Nat} {j : Nat} (h : l.getD j 0 = 32) : tokEnd l j = j + 1 := by
  unfold tokEnd
  rw [h, isW_sp]
  rfl
/-- the law's own turn: found holds acc0 and the tokens of this row so far -/
structure GTs (R : List Tok) (H : Hp) (n : Int) (z : Str) (p L : Addr) (rs : List V) (acc0 : List Tok) (c0 : Nat) (j b : Nat) (acc : List Tok) (xs : List V) (H' : Hp) : Prop where
  same : Same H H'
  np : H p = none
  lst : H' p = some (.lst xs)
  rws : H' L = some (.lst rs)
  pL : L ≠ p
  pr : Paired (TokAt H') xs (acc0 ++ acc)
  hj : j ≤ (tl z).length
  b0 : b = 0 ↔ acc = []
  cnt : xs.length ≤ c0 + j
  eg : go n (tl z) j acc b = R
section
variable {R : List Tok} {H : Hp} {n : Int} {z : Str} {p L : Addr} {rs : List V} {acc0 : List Tok} {c0 : Nat} {j b : Nat} {acc : List Tok} {xs : List V} {H' : Hp}
theorem GTs.blank (S : GTs R H n z p L rs acc0 c0 j b acc xs H') (h : j < (tl z).length) (hb : (tl z).getD j 0 = 32) : GTs R H n z p L rs acc0 c0 (j + 1) b acc xs H' :=
  ⟨S.same, S.np, S.lst, S.rws, S.pL, S.pr, h, S.b0, Nat.le_succ_of_le S.cnt, by rw [← S.eg, go_blank h hb]⟩
theorem GTs.put (S : GTs R H n z p L rs acc0 c0 j b acc xs H') {q : Addr} (hq : H' q = none) {vs : List V} {t : Tok} (hv : vs = t.vs) :
    Same H (upd (upd H' q (.tup vs)) p (.lst (xs ++ [V.ref q]))) ∧ (upd (upd H' q (.tup vs)) p (.lst (xs ++ [V.ref q]))) L = some (.lst rs) ∧
    Paired (TokAt (upd (upd H' q (.tup vs)) p (.lst (xs ++ [V.ref q])))) (xs ++ [.ref q]) (acc0 ++ (acc ++ [t])) := by
  have hpq : p ≠ q := ne_of_none S.lst hq
  have kt : KT H' (upd (upd H' q (.tup vs)) p (.lst (xs ++ [V.ref q]))) := (KT.new hq).trans (KT.put (xs := xs) (by rw [upd_ne hpq]; exact S.lst))
  refine ⟨fun c o e => ?_, ?_, ?_⟩
  · rw [upd_ne (ne_of_none e S.np), upd_ne (ne_of_none (S.same _ _ e) hq)]
    exact S.same _ _ e
  · rw [upd_ne S.pL, upd_ne (ne_of_none S.rws hq)]
    exact S.rws
  · rw [← List.append_assoc]
    refine paired_app (toks_keep kt S.pr) (.cons ⟨q, rfl, ?_⟩ .nil)
    rw [upd_ne hpq.symm, upd_same, hv]
theorem GTs.tok (S : GTs R H n z p L rs acc0 c0 j b acc xs H') (h : j < (tl z).length) (hb : (tl z).getD j 0 ≠ 32) {q : Addr} (hq : H' q = none)
    {vs : List V} (hv : vs = [V.int n, V.int ((j : Int) + 1), ixV (if b = 0 then some (j : Int) else none), V.str (cutS z (some (j : Int)) (some ((tokEnd (tl z) j : Nat) : Int)))]) :
    ∃ acc', GTs R H n z p L rs acc0 c0 (tokEnd (tl z) j) (tokEnd (tl z) j) acc' (xs ++ [.ref q]) (upd (upd H' q (.tup vs)) p (.lst (xs ++ [V.ref q]))) := by
  have hlen : z.length = (tl z).length := TL.len_tl z
  have hg := tokEnd_gt h
  have hle := tokEnd_le h
  have e : vs = Tok.vs ⟨n, (j : Int) + 1, (if acc = [] then some (j : Int) else none), cut (tl z) j (tokEnd (tl z) j)⟩ := by
    rw [hv, cutS_cut (by omega) (by omega)]
    unfold Tok.vs
    have e2 : (if b = 0 then some (j : Int) else none) = (if acc = [] then some (j : Int) else none) := by
      by_cases hb0 : b = 0
      · rw [if_pos hb0, if_pos (S.b0.mp hb0)]
      · rw [if_neg hb0, if_neg (fun h => hb0 (S.b0.mpr h))]
    rw [e2]
    rfl
  obtain ⟨h1, h2, h3⟩ := S.put hq e
  refine ⟨_, ⟨h1, S.np, upd_same, h2, S.pL, h3, hle, ⟨fun z => by omega, fun z => by simp at z⟩, ?_, ?_⟩⟩
  · rw [List.length_append]
    have := S.cnt
    show xs.length + 1 ≤ _
    omega
  · rw [← S.eg, go_tok h hb]
theorem TOs.next {rows : List Str} {i : Nat} (S0 : TOs H rows L p i acc0 xs H') {r : Str} (hr : rows[i]? = some r) {H1 : Hp} {ys : List V} (s : Same H H1) (h1 : H1 L = some (.lst (rows.map V.str))) (h2 : H1 p = some (.lst ys))
    (pr : Paired (TokAt H1) ys (acc0 ++ lineToks ((i : Int) + 1) (tl (bodyOf r)))) (hc : ys.length ≤ xs.length + 10001) : TOs H rows L p (i + 1) (acc0 ++ lineToks ((i : Int) + 1) (tl (bodyOf r))) ys H1 := by
  refine ⟨s, S0.nL, S0.np, h1, h2, pr, ?_, ?_⟩
  · rw [List.append_assoc, ← rowsToks_step hr]
    exact S0.eg
  · have := S0.cnt
    omega
end
theorem sp_ne (c : Nat) : decide (V.str ⟨#[c]⟩ = V.str (" " : Str)) = decide (c = 32) := decide_eq_decide.mpr (sp_eq c)
theorem split_at0 (r : Str) : atI ((Txt.split r hash).map V.str) 0 = some (.str (bodyOf r)) := by
  refine atI_nat (j := 0) ?_
  rw [List.getElem?_map, split_head]
  rfl
section
variable {P : Program} {w : World} {K : PySem.W.Frag} {mg : Str → Option Value} {base : Heap}
theorem scGT : FnScope ["text", "letters", "found", "rows", "at", "row", "spot", "end", "begin"] ["text"] (defScope sGT) := ⟨rfl, rfl, rfl, by decide +kernel, rfl, by decide +kernel, by decide +kernel⟩
theorem ok_GT {f : Addr} {fd : FuncData} (F : Fun K "_law_tx_tokens" "_law_tx_tokens" sGT f fd) (T : MgG mg) : FnOk P w K mg base CX0 1 f fd ["text"] spGT := by
  refine F.ok scGT (fun vs H Q E h => ?_) (fun cdv A outer s H vs Q E hr h => ?_)
  · obtain ⟨z, rfl, _⟩ := h
    rfl
  · obtain ⟨z, rfl, hz, hzr, k⟩ := h
    refine ⟨_, pss_cons (ps_set (i := 1) scGT.nd rfl (Or.inl rfl) pe_str)
      (pss_cons (ps_par (i := 2) (j := 3) (by rfl) scGT.nd rfl rfl (by decide) rfl rfl (pa_cons (pe_lst pa_nil) (pa_cons (pe_split (pv 0) pe_str) pa_nil)) (by rfl))
      (pss_cons (ps_for PassesOwn.never rfl (pi_enum (by rfl) T.enu (pa_cons (pv 3) pa_nil)) (pg_tup (by rfl) (pgs_cons (pg_name (i := 4) scGT.nd rfl (Or.inl rfl)) (pgs_cons (pg_name (i := 5) scGT.nd rfl (Or.inl rfl)) pgs_nil)))
        (pss_cons (ps_par3 (i := 5) (j := 6) (l := 7) (by rfl) scGT.nd rfl rfl rfl (by decide) (by decide) (by decide) rfl rfl rfl (pa_cons (pe_ix ix_list (pe_split (pv 5) pe_str) pe_int (fun _ _ => rfl)) (pa_cons pe_int (pa_cons pe_int pa_nil))) (by rfl))
        (pss_cons (ps_while PassesOwn.never (pt_cmpR op_lt (pv 6) (pe_callB call_len_str (by rfl) T.len PySem.boot_len (pa_cons (pv 5) pa_nil)) (nomark _))
          (pss_cons (ps_par (i := 8) (j := 6) (by rfl) scGT.nd rfl rfl (by decide) rfl rfl (pa_cons (pv 6) (pa_cons (pe_op op_add (pv 6) pe_int) pa_nil)) (by rfl))
          (pss_cons (ps_while PassesOwn.never (PW.pt (pw_and (pt_cmpR op_in_sign (pe_item_str (pv 5) (pv 8) (fun _ _ => rfl)) (pv 1) (by rfl))
              (pw_and (pt_cmpR op_lt (pv 6) (pe_callB call_len_str (by rfl) T.len PySem.boot_len (pa_cons (pv 5) pa_nil)) (nomark _)) (pw_and1 (pt_cmpR op_in_sign (pe_item_str (pv 5) (pv 6) (fun _ _ => rfl)) (pv 1) (by rfl))))))
            (pss_one (ps_set (i := 6) scGT.nd rfl (Or.inl rfl) (pe_op op_add (pv 6) pe_int))))
          (pss_one (ps_if (pt_cmpR op_ne (pe_item_str (pv 5) (pv 8) (fun _ _ => rfl)) pe_str (nomark _))
            (pss_cons (ps_expr (qApp (pv 2) (pe_tup (pa_cons (pe_op op_add (pv 4) pe_int) (pa_cons (pe_op op_add (pv 8) pe_int) (pa_cons (pe_ifExp (pt_cmpR op_eq (pv 7) pe_int (nomark _)) (pv 8) pe_non) (pa_cons (pe_slice sl_str (pv 5) (po_some (pv 8)) (po_some (pv 6))) pa_nil)))))))
            (pss_one (ps_set (i := 7) scGT.nd rfl (Or.inl rfl) (pv 6)))) pss_nil)))))
        (pss_one (ps_if (pt_cmpR op_gt (pv 7) pe_int (nomark _)) (pss_one (ps_expr (qApp (pv 2) (pe_tup (pa_cons (pe_op op_add (pv 4) pe_int) (pa_cons (pe_op op_add (pv 7) pe_int) (pa_cons pe_non (pa_cons pe_str pa_nil)))))))) pss_nil)))))
      (pss_one (ps_ret (pe_op op_cat (pv 2) (pe_lst (pa_cons (pe_tup (pa_cons (pe_op op_add (pe_callB call_len_seq (by rfl) T.len PySem.boot_len (pa_cons (pv 3) pa_nil)) pe_int) (pa_cons pe_int (pa_cons pe_non (pa_cons pe_str pa_nil))))) pa_nil))))))), ?_⟩
    have zs : z.length + 2 ≤ sizeLine := by rw [sizeLine_eq]; omega
    have hn := rows_len z
    refine ⟨Nat.zero_le _, fun p hp => ?_⟩
    refine ⟨_, rfl, ⟨_, rfl⟩, z, nlS, rfl, rfl, (by decide +kernel), zs, fun L hL => ⟨_, _, rfl, ?_⟩⟩
    have hpL : p ≠ L := ne_of_none upd_same hL
    have hLH : H L = none := (same_new hp).free hL
    refine ⟨_, rfl, L, (Txt.split z nlS).map V.str, rfl, SqL.of upd_same, for_enum (K := K) (a := L) (xs := (Txt.split z nlS).map V.str)
      (fun i σ H' => ∃ (acc : List Tok) (xs : List V) (av rv sv ev bv : Option V), σ = [some (.str z), some (.str WS), some (.ref p), some (.ref L), av, rv, sv, ev, bv] ∧ TOs H (Txt.split z nlS) L p i acc xs H')
      ⟨[], [], none, none, none, none, none, rfl, (same_new hp).trans (same_new hL), hLH, hp, upd_same, by rw [upd_ne hpL, upd_same], .nil, rfl, Nat.zero_le _⟩
      (fun i σ H' _ ⟨_, _, _, _, _, _, _, _, S⟩ => SqL.of S.rws) ?_ ?_⟩
    · rintro i x Ta σ H' hi ⟨acc0, xs0, av, rv, sv, ev, bv, rfl, S0⟩ hT
      rw [List.getElem?_map] at hi
      obtain ⟨r, hr, rfl⟩ := Option.map_eq_some_iff.mp hi
      have hrl : r.length ≤ z.length := row_len (List.mem_of_getElem? hr)
      have hbl := body_len r
      have hil : i < (Txt.split z nlS).length := (List.getElem?_eq_some_iff.mp hr).1
      refine ⟨Ta, _, rfl, .inl (.inl upd_same), (by rfl), _, _, rfl, _, _, rfl, rfl, ?_⟩
      refine ⟨_, rfl, ⟨_, rfl⟩, r, hash, rfl, rfl, (by decide +kernel), (by rw [sizeLine_eq]; omega), fun q hq => ?_⟩
      refine ⟨q, _, 0, _, rfl, rfl, SqL.of upd_same, split_at0 r, ⟨_, _, _, rfl, ?_⟩⟩
      have sc := (same_new (o := .tup [V.int (i : Nat), V.str r]) hT).trans (same_new (o := .lst ((Txt.split r hash).map V.str)) hq)
      generalize hx : bodyOf r = x at *
      have hlen : x.length = (tl x).length := TL.len_tl x
      have xz : x.length ≤ sizeLine := by rw [sizeLine_eq]; omega
      refine while_m (fun m σ H'' => ∃ (j b : Nat) (acc : List Tok) (xs : List V) (bv : Option V), σ = [some (.str z), some (.str WS), some (.ref p), some (.ref L), some (.int (i : Nat)), some (.str x), some (.int (j : Nat)), some (.int (b : Nat)), bv] ∧ m = (tl x).length - j ∧
          GTs (lineToks ((i : Int) + 1) (tl x)) H ((i : Int) + 1) x p L ((Txt.split z nlS).map V.str) acc0 xs0.length j b acc xs H'') (tl x).length
        ⟨0, 0, [], xs0, bv, rfl, rfl, ⟨S0.same.trans sc, hp, sc _ _ S0.lst, sc _ _ S0.rws, hpL.symm, by rw [List.append_nil]; exact toks_keep (KT.of sc) S0.pr, Nat.zero_le _, ⟨fun _ => rfl, fun _ => rfl⟩, Nat.le_refl _, rfl⟩⟩ ?_
      rintro m σ H1 ⟨j, b, acc, xs, bv, rfl, rfl, S⟩
      have hj := S.hj
      refine ⟨_, rfl, _, rfl, x, rfl, xz, _, _, rfl, rfl, _, rfl, ?_⟩
      by_cases c1 : j < x.length
      · refine ifT (decide_eq_true (by omega)) ?_
        refine ⟨_, fun _ _ h => h, ?_⟩
        refine ⟨_, rfl, _, rfl, _, _, rfl, rfl, _, _, rfl, ?_⟩
        have hg := tokEnd_gt (l := tl x) (i := j) (by omega)
        have hle := tokEnd_le (l := tl x) (i := j) (by omega)
        refine while_q (fun m σ H'' => H'' = H1 ∧ ∃ k : Nat, σ = [some (.str z), some (.str WS), some (.ref p), some (.ref L), some (.int (i : Nat)), some (.str x), some (.int (k : Nat)), some (.int (b : Nat)), some (.int (j : Nat))] ∧ j + 1 ≤ k ∧ k ≤ (tl x).length ∧ m = (tl x).length - k ∧
            (isW ((tl x).getD j 0) = true → k + (((tl x).drop k).takeWhile isW).length = tokEnd (tl x) j) ∧ (isW ((tl x).getD j 0) = false → k = j + 1)) ((tl x).length - (j + 1))
          (fun σ H'' => H'' = H1 ∧ σ = [some (.str z), some (.str WS), some (.ref p), some (.ref L), some (.int (i : Nat)), some (.str x), some (.int ((tokEnd (tl x) j : Nat) : Int)), some (.int (b : Nat)), some (.int (j : Nat))])
          ⟨rfl, j + 1, rfl, Nat.le_refl _, by omega, rfl, fun hw => ?_, fun _ => rfl⟩ ?_ ?_
        · unfold tokEnd
          rw [if_pos hw, run_step (by omega) hw]
        · rintro X hX m σ H'' ⟨rfl, k2, rfl, hk1, hk2, rfl, hkT, hkF⟩
          refine ⟨_, rfl, _, rfl, x, j, _, rfl, rfl, by omega, by omega, by omega, sign_at (by omega), _, rfl, _, WS, rfl, rfl, _, rfl, ?_⟩
          cases w1 : isW ((tl x).getD j 0) with
          | false =>
            refine ifF w1 (ifF rfl (hX _ _ ⟨rfl, ?_⟩))
            have e : tokEnd (tl x) j = j + 1 := by unfold tokEnd; rw [w1]; rfl
            rw [e, hkF w1]
          | true =>
            refine ifT w1 ?_
            refine ⟨_, rfl, _, rfl, x, rfl, xz, _, _, rfl, rfl, _, rfl, ?_⟩
            by_cases w2 : k2 < x.length
            · refine ifT (decide_eq_true (by omega)) ?_
              refine ⟨_, rfl, _, rfl, x, k2, _, rfl, rfl, by omega, by omega, by omega, sign_at (by omega), _, rfl, _, WS, rfl, rfl, _, rfl, ?_⟩
              cases w3 : isW ((tl x).getD k2 0) with
              | true =>
                refine ifT w3 ?_
                refine ⟨_, fun _ _ h => h, _, rfl, _, _, rfl, rfl, (tl x).length - (k2 + 1), by omega, rfl, k2 + 1, rfl, by omega, by omega, rfl, fun _ => ?_, fun z => by cases z⟩
                rw [← hkT w1, run_step (by omega) w3]
              | false =>
                refine ifF w3 (hX _ _ ⟨rfl, ?_⟩)
                rw [← hkT w1, run_stop (by omega) w3]
            · refine ifF (decide_eq_false (by omega)) (ifF rfl (hX _ _ ⟨rfl, ?_⟩))
              rw [← hkT w1, run_end (by omega)]
        · rintro σ H'' ⟨rfl, rfl⟩
          refine ⟨_, rfl, _, rfl, x, j, _, rfl, rfl, by omega, by omega, by omega, sign_at (by omega), rfl, _, rfl, ?_⟩
          by_cases c2 : (tl x).getD j 0 = 32
          · refine ifF (by rw [decide_eq_true ((sp_eq _).mpr c2)]; rfl) ?_
            exact ⟨(tl x).length - tokEnd (tl x) j, by omega, tokEnd (tl x) j, b, acc, xs, _, rfl, rfl, (tokEnd_sp c2).symm ▸ S.blank (by omega) c2⟩
          · refine ifT (by rw [decide_eq_false (fun h => c2 ((sp_eq _).mp h))]; rfl) ?_
            have hx1 := S.cnt
            have hx2 := S0.cnt
            refine ⟨_, rfl, .inl ⟨rfl, _, SqL.of S.lst⟩, ?_⟩
            refine ⟨_, rfl, _, _, rfl, rfl, _, rfl, _, _, rfl, rfl, _, rfl, rfl, _, rfl, ?_⟩
            by_cases hb0 : b = 0
            · refine ifT (decide_eq_true (by rw [hb0]; rfl)) ⟨_, rfl, ?_⟩
              refine ⟨_, rfl, _, rfl, _, rfl, _, rfl, _, rfl, x, rfl, xz, (by show 4 ≤ sizeLine; decide), fun q2 hq2 => ?_⟩
              obtain ⟨acc', S'⟩ := S.tok (by omega) c2 hq2 (vs := [V.int ((i : Int) + 1), V.int ((j : Int) + 1), .int (j : Nat), V.str (cutS x (some (j : Int)) (some ((tokEnd (tl x) j : Nat) : Int)))]) (by rw [if_pos hb0]; rfl)
              refine ⟨p, xs, .ref q2, rfl, rfl, (by rw [upd_ne (ne_of_none S.lst hq2)]; exact S.lst), (by rw [sizeLine_eq]; omega), ?_⟩
              refine ⟨_, rfl, ?_⟩
              exact ⟨_, by omega, _, _, _, _, _, rfl, rfl, S'⟩
            · refine ifF (decide_eq_false (fun h => hb0 (by injection h with h; omega))) ?_
              refine ⟨_, rfl, _, rfl, _, rfl, _, rfl, _, rfl, x, rfl, xz, (by show 4 ≤ sizeLine; decide), fun q2 hq2 => ?_⟩
              obtain ⟨acc', S'⟩ := S.tok (by omega) c2 hq2 (vs := [V.int ((i : Int) + 1), V.int ((j : Int) + 1), .non, V.str (cutS x (some (j : Int)) (some ((tokEnd (tl x) j : Nat) : Int)))]) (by rw [if_neg hb0]; rfl)
              refine ⟨p, xs, .ref q2, rfl, rfl, (by rw [upd_ne (ne_of_none S.lst hq2)]; exact S.lst), (by rw [sizeLine_eq]; omega), ?_⟩
              refine ⟨_, rfl, ?_⟩
              exact ⟨_, by omega, _, _, _, _, _, rfl, rfl, S'⟩
      · refine ifF (decide_eq_false (by omega)) ?_
        have hx1 := S.cnt
        have hx2 := S0.cnt
        have ge := go_end (n := ((i : Int) + 1)) (b := b) (acc := acc) (show ¬ j < (tl x).length by omega)
        have eg := S.eg
        rw [ge] at eg
        refine ⟨_, rfl, _, _, rfl, rfl, _, rfl, ?_⟩
        by_cases hb0 : b = 0
        · refine ifF (decide_eq_false (by omega)) ?_
          rw [if_pos (S.b0.mp hb0)] at eg
          refine ⟨_, xs, _, _, _, _, _, rfl, S0.next hr S.same S.rws S.lst ?_ (by omega)⟩
          rw [hx, ← eg]
          have := S.pr
          rw [S.b0.mp hb0] at this
          exact this
        · refine ifT (decide_eq_true (by omega)) ?_
          rw [if_neg (fun h => hb0 (S.b0.mpr h))] at eg
          refine ⟨_, rfl, .inl ⟨rfl, _, SqL.of S.lst⟩, ?_⟩
          refine ⟨_, rfl, _, _, rfl, rfl, _, rfl, _, _, rfl, rfl, (by show 4 ≤ sizeLine; decide), fun q2 hq2 => ?_⟩
          obtain ⟨h1, h2, h3⟩ := S.put hq2 (t := ⟨(i : Int) + 1, (b : Int) + 1, none, nlS⟩) (vs := [V.int ((i : Int) + 1), V.int ((b : Int) + 1), .non, .str nlS]) rfl
          refine ⟨p, xs, .ref q2, rfl, rfl, (by rw [upd_ne (ne_of_none S.lst hq2)]; exact S.lst), (by rw [sizeLine_eq]; omega), ?_⟩
          refine ⟨_, _, _, _, _, _, _, rfl, S0.next hr h1 h2 upd_same ?_ (by rw [List.length_append]; show _ + 1 ≤ _; omega)⟩
          rw [hx, ← eg]
          exact h3
    · rw [List.length_map]
      rintro σ H' ⟨acc, xs, av, rv, sv, ev, bv, rfl, S⟩
      have hc := S.cnt
      have hcl : (Txt.split z nlS).length * 10001 ≤ 1500 * 10001 := Nat.mul_le_mul_right _ (by omega)
      have eg := S.eg
      rw [List.drop_length] at eg
      have eg : acc ++ [] = rowsToks 0 (Txt.split z nlS) := eg
      rw [List.append_nil] at eg
      refine ⟨_, rfl, _, rfl, L, _, rfl, .inl (SqL.of S.rws), _, _, rfl, rfl, (by show 4 ≤ sizeLine; decide), fun q hq => ?_⟩
      refine ⟨(by show 1 ≤ sizeLine; decide), fun l hl => ?_⟩
      have sc := (same_new hq).trans (same_new (o := .lst [V.ref q]) hl)
      refine ⟨p, l, xs, [.ref q], rfl, rfl, sc _ _ S.lst, upd_same, (by rw [sizeLine_eq]; show xs.length + 1 ≤ _; omega), fun m hm => ?_⟩
      have sm := sc.trans (same_new (o := .lst (xs ++ [V.ref q])) hm)
      refine k m _ _ (S.same.trans sm) ((S.same.trans sc).free hm) upd_same ?_ (by rw [List.length_append]; show _ + 1 ≤ _; omega)
      unfold allToks
      rw [← eg]
      refine paired_app (toks_keep (KT.of sm) S.pr) (.cons ⟨q, rfl, ?_⟩ .nil)
      have e1 := (same_new (o := .lst [V.ref q]) hl).trans (same_new (o := .lst (xs ++ [V.ref q])) hm) _ _ upd_same
      refine e1.trans ?_
      rw [List.length_map]
      rfl
end
end K3

set_option Elab.async false
set_option linter.all false
set_option pp.maxSteps 700
set_option maxRecDepth 100000
set_option maxHeartbeats 2000000
namespace K3
open PySem PySem.Spec PyProof.Rows L2
abbrev sBad : Stmt := top 64
/-- e.f, e a kept error of the class at C -/
def tXh (C : Addr) (f : Str) (te : TE) : TE := fun σ H Q => te σ H fun x H1 => ∃ (a dd : Addr) (fs : List (Str × V)) (v : V), x = .ref a ∧ H1 a = some (exh a (.ref C) (some dd)) ∧ H1 dd = some (.xd fs) ∧ fs.lookup f = some v ∧ Q v H1
theorem pe_xh {X : Cx} {C : Addr} {e : Expr} {te : TE} {pos : Pos} {n : Str} (T : XfC X.K C) (hno : PySem.W.findIn X.K (.ref C) n = some none) (he : PE X e te) (hb : attributeBase e n X.env (eval e X.env) = eval e X.env := by rfl) :
    PE X (.Attribute e n pos) (tXh C n te) := by
  refine ⟨fun pins s σ H Q I h => ?_⟩
  refine attr_of hb (thn (he.run pins s σ H _ I h) fun u s1 hh => ?_)
  obtain ⟨x, H1, I1, rx, a, dd, fs, v, ex, h1, h2, l, q⟩ := hh
  subst ex
  obtain rfl : u = Value.ref a := rx
  obtain ⟨oe, od, mA, J, hr, hl⟩ := exh_inst I1 h1 h2
  obtain ⟨u, hu, ru⟩ := RelO.some_of (v := v) (o := mA n) (by rw [← l]; exact hr n)
  exact HandSPX.exc_get I1.kIn J T.ga T.gg T.exC (PySem.W.findObj_own T.hdC hno rfl (by rw [hl, hu])) (handed_of ru) ⟨v, H1, I1.tok _, ru, q⟩
def fs11 (l c : Int) : List (Str × V) := [("column", .int c), ("line", .int l)]
theorem fs_line (l c : Int) : (fs11 l c).lookup ("line" : Str) = some (.int l) := by
  unfold fs11
  rw [lookup_put, if_neg (by decide +kernel), lookup_put, if_pos rfl]
theorem fs_col (l c : Int) : (fs11 l c).lookup ("column" : Str) = some (.int c) := by
  unfold fs11
  rw [lookup_put, if_pos rfl]
def spBad (C : Addr) : Sp := fun vs H Q _ => ∃ (a dd : Addr) (l c : Int), vs = [.ref a, .int l, .int c] ∧ H a = some (exh a (.ref C) (some dd)) ∧ H dd = some (.xd (fs11 l c)) ∧ ∀ H', Same H H' → Q (.bl true) H'
structure MgB (K : PySem.W.Frag) (mg : Str → Option Value) (C : Addr) : Prop where
  mC : mg "BadText" = some (.ref C)
  isi : mg "isinstance" = none
  ec : ExcC K C
  xf : XfC K C
  nl : PySem.W.findIn K (.ref C) "line" = some none
  nc : PySem.W.findIn K (.ref C) "column" = some none
  kit : PySem.W.kitOne K (.ref C) (.ref C) = some true
section
variable {P : Program} {w : World} {K : PySem.W.Frag} {mg : Str → Option Value} {base : Heap}
theorem scBad : FnScope ["raised", "line", "column"] ["raised", "line", "column"] (defScope sBad) := ⟨rfl, rfl, rfl, by decide +kernel, rfl, by decide +kernel, by decide +kernel⟩
theorem ok_bad {f C : Addr} {fd : FuncData} (F : Fun K "_law_tx_bad" "_law_tx_bad" sBad f fd) (T : MgB K mg C) : FnOk P w K mg base CX0 1 f fd ["raised", "line", "column"] (spBad C) := by
  refine F.ok scBad (fun vs H Q E h => ?_) (fun cdv A outer s H vs Q E hr h => ?_)
  · obtain ⟨a, dd, l, c, rfl, _⟩ := h
    rfl
  · obtain ⟨a, dd, l, c, rfl, h1, h2, k⟩ := h
    refine ⟨_, pss_one (ps_ret (pe_and (pe_callB (call_isH T.ec) (by rfl) T.isi (by decide +kernel) (pa_cons (pv 0) (pa_cons (pe_glob (v := .ref C) (by rfl) T.mC rfl) pa_nil)))
      (pe_one (pe_cmpR (op_eqD hr.units) (pe_tup (pa_cons (pe_xh T.xf T.nl (pv 0)) (pa_cons (pe_xh T.xf T.nc (pv 0)) pa_nil))) (pe_tup (pa_cons (pv 1) (pa_cons (pv 2) pa_nil))) (nomark _))))), ?_⟩
    refine ⟨_, rfl, a, dd, fs11 l c, _, .ref C, true, rfl, (fun u hu => hu), h1, h2, T.kit, true, rfl, ?_⟩
    refine iteT ?_
    refine ⟨_, rfl, a, dd, fs11 l c, _, rfl, h1, h2, fs_line l c, _, rfl, a, dd, fs11 l c, _, rfl, h1, h2, fs_col l c, (by show 2 ≤ sizeLine; decide), fun p hp => ?_⟩
    refine ⟨_, rfl, _, rfl, (by show 2 ≤ sizeLine; decide), fun q hq => ?_⟩
    have s1 := (same_new hp (o := .tup [.int l, .int c])).trans (same_new (o := .tup [.int l, .int c]) hq)
    refine ⟨.tuple [.int l, .int c], .tuple [.int l, .int c], .tup (SqT.of (by rw [upd_ne (ne_of_none upd_same hq)]; exact upd_same)) (.cons (.int l) (.cons (.int c) .nil)), .tup (SqT.of upd_same) (.cons (.int l) (.cons (.int c) .nil)), by rfl, by rfl, ?_⟩
    rw [show PyData.eqv (.tuple [.int l, .int c]) (.tuple [.int l, .int c]) = true by simp [PyData.eqv, PyData.eqvAll]]
    exact k _ s1
end
end K3

set_option Elab.async false
set_option linter.all false
set_option pp.maxSteps 700
set_option maxRecDepth 100000
set_option maxHeartbeats 2000000
namespace K3
open PySem PySem.Spec PyProof.Rows L2
open LamX (GivesTo CodeO Tabs TabS TabB tLam pe_lamcall lamCx lamEnv lamS_by ExtN)
open TL (tl)
abbrev sLaw : Stmt := top 73
/-! ### tokens as data -/
theorem ixV_d {K : PySem.W.Frag} {H : Hp} (i : Option Int) : Dp K H (match i with | some i => V.int i | none => V.non) (match i with | some i => PyData.int i | none => PyData.none) := by
  cases i with
  | none => exact .non
  | some i => exact .int i
theorem dp_tok {K : PySem.W.Frag} {H : Hp} {v : V} {t : Tok} (h : TokAt H v t) : Dp K H v t.d := by
  obtain ⟨a, rfl, h⟩ := h
  exact .tup (SqT.of h) (.cons (.int _) (.cons (.int _) (.cons (ixV_d t.i) (.cons (.str _) .nil))))
theorem dp_toks {K : PySem.W.Frag} {H : Hp} : ∀ {xs : List V} {ts : List Tok}, Paired (TokAt H) xs ts → DpAll K H xs (ts.map Tok.d)
  | _, _, .nil => .nil
  | _, _, .cons h r => .cons (dp_tok h) (dp_toks r)
def asc (x : Str) : Prop := ∀ c ∈ tl x, c < 128
theorem asc_ok {x : Str} (h : asc x) : PyData.strOk x = true := by
  unfold PyData.strOk
  rw [Array.all_eq_true]
  intro i hi
  have := h _ (by rw [Array.mem_toList_iff]; exact Array.getElem_mem hi)
  exact decide_eq_true (by omega)
theorem asc_cut {l : List Nat} (h : ∀ c ∈ l, c < 128) (i j : Nat) : asc (cut l i j) := fun c hc => h c (List.mem_of_mem_drop (List.mem_of_mem_take hc))
theorem asc_nl : asc nlS := by
  unfold asc
  decide +kernel
theorem asc_et : asc etS := by
  unfold asc
  decide +kernel
theorem go_asc (n : Int) (l : List Nat) (hl : ∀ c ∈ l, c < 128) (i : Nat) (acc : List Tok) (b : Nat) (ha : ∀ t ∈ acc, asc t.s) : ∀ t ∈ go n l i acc b, asc t.s := by
  induction i, acc, b using go.induct (n := n) (l := l) with
  | case1 i acc b h hb ih =>
    rw [go_blank h hb]
    exact ih ha
  | case2 i acc b h hb ih =>
    rw [go_tok h hb]
    refine ih fun t ht => ?_
    rcases List.mem_append.mp ht with ht | ht
    · exact ha t ht
    · rw [List.mem_singleton.mp ht]
      exact asc_cut hl _ _
  | case3 i b h =>
    rw [go_end h]
    intro t ht
    cases ht
  | case4 i acc b h hne =>
    rw [go_end h]
    intro t ht
    split at ht
    · cases ht
    · rcases List.mem_append.mp ht with ht | ht
      · exact ha t ht
      · rw [List.mem_singleton.mp ht]
        exact asc_nl
theorem par_mem (S : List Nat) : ∀ (l acc a b : List Nat), TL.par S acc l = some (a, b) → ∀ c ∈ a, c ∈ acc ∨ c ∈ l
  | [], acc, a, b => by
    intro h
    cases h
  | x :: r, acc, a, b => by
    intro h c hc
    unfold TL.par at h
    split at h
    · have h2 : acc = a := congrArg Prod.fst (Option.some.inj h)
      exact .inl (h2 ▸ hc)
    · rcases par_mem S r (acc ++ [x]) a b h c hc with h1 | h1
      · rcases List.mem_append.mp h1 with h1 | h1
        · exact .inl h1
        · rw [List.mem_singleton.mp h1]
          exact .inr (List.mem_cons_self ..)
      · exact .inr (List.mem_cons_of_mem _ h1)
theorem asc_body {x : Str} (h : asc x) : asc (bodyOf x) := by
  unfold bodyOf
  rw [TL.partition_par x hash (by rw [tl_hash]; simp)]
  cases e : TL.par (tl hash) [] (tl x) with
  | none => exact h
  | some p =>
    obtain ⟨a, b⟩ := p
    intro c hc
    rcases par_mem _ _ _ _ _ e c hc with h1 | h1
    · cases h1
    · exact h c h1
theorem spl_mem (S : List Nat) : ∀ (l : List Nat) (k : Nat) (acc : List Nat), ∀ p ∈ TL.spl S k acc l, ∀ c ∈ p, c ∈ acc ∨ c ∈ l
  | [], k, acc => by
    intro p hp c hc
    have e : TL.spl S k acc [] = [acc] := by cases k <;> rfl
    rw [e] at hp
    rw [List.mem_singleton.mp hp] at hc
    exact .inl hc
  | x :: r, 0, acc => by
    intro p hp c hc
    unfold TL.spl at hp
    split at hp
    · rcases List.mem_cons.mp hp with h | h
      · rw [h] at hc
        exact .inl hc
      · rcases spl_mem S r (S.length - 1) [] p h c hc with h1 | h1
        · cases h1
        · exact .inr (List.mem_cons_of_mem _ h1)
    · rcases spl_mem S r 0 (acc ++ [x]) p hp c hc with h1 | h1
      · rcases List.mem_append.mp h1 with h1 | h1
        · exact .inl h1
        · rw [List.mem_singleton.mp h1]
          exact .inr (List.mem_cons_self ..)
      · exact .inr (List.mem_cons_of_mem _ h1)
  | x :: r, k + 1, acc => by
    intro p hp c hc
    unfold TL.spl at hp
    rcases spl_mem S r k acc p hp c hc with h1 | h1
    · exact .inl h1
    · exact .inr (List.mem_cons_of_mem _ h1)
theorem asc_row {z r : Str} (h : asc z) (hr : r ∈ Txt.split z nlS) : asc r := by
  have e := TL.split_spl z nlS (by rw [tl_nl]; simp) (nl_kind z)
  intro c hc
  rcases spl_mem (tl nlS) (tl z) 0 [] (tl r) (by rw [← e]; exact List.mem_map.mpr ⟨r, hr, rfl⟩) c hc with h1 | h1
  · cases h1
  · exact h c h1
theorem rows_asc : ∀ (rs : List Str) (i : Nat), (∀ r ∈ rs, asc r) → ∀ t ∈ rowsToks i rs, asc t.s
  | [], i, _ => fun t ht => by cases ht
  | r :: rs, i, h => fun t ht => by
    unfold rowsToks at ht
    rcases List.mem_append.mp ht with ht | ht
    · exact go_asc _ _ (asc_body (h r (List.mem_cons_self ..))) 0 [] 0 (fun t h => by cases h) t ht
    · exact rows_asc rs (i + 1) (fun r hr => h r (List.mem_cons_of_mem _ hr)) t ht
theorem all_asc {z : Str} (h : asc z) : ∀ t ∈ allToks z, asc t.s := by
  intro t ht
  unfold allToks at ht
  rcases List.mem_append.mp ht with ht | ht
  · exact rows_asc _ 0 (fun r hr => asc_row h hr) t ht
  · rw [List.mem_singleton.mp ht]
    exact asc_et
theorem lay_toks : ∀ {ts : List Tok}, (∀ t ∈ ts, asc t.s) → PyData.canLayAll0 (ts.map Tok.d) = true ∧ PyData.depthAll (ts.map Tok.d) ≤ 1
  | [], _ => ⟨rfl, Nat.zero_le _⟩
  | t :: ts, h => by
    obtain ⟨h1, h2⟩ := lay_toks (ts := ts) fun t ht => h t (List.mem_cons_of_mem _ ht)
    have h3 := asc_ok (h t (List.mem_cons_self ..))
    have e1 : PyData.canLay0 t.d = true := by
      unfold Tok.d
      cases t.i <;> (show (true && (true && (true && (PyData.strOk t.s && true)))) = true; rw [h3]; rfl)
    have e2 : PyData.depth t.d = 1 := by
      unfold Tok.d
      cases t.i <;> rfl
    refine ⟨?_, ?_⟩
    · show (PyData.canLay0 t.d && PyData.canLayAll0 (ts.map Tok.d)) = true
      rw [e1, h1]
      rfl
    · show max (PyData.depth t.d) (PyData.depthAll (ts.map Tok.d)) ≤ 1
      rw [e2]
      omega
theorem sh_toks {ts : List Tok} (h : ∀ t ∈ ts, asc t.s) : SeqAt.shaped (.list (ts.map Tok.d)) = true := by
  obtain ⟨h1, h2⟩ := lay_toks h
  unfold SeqAt.shaped
  show (PyData.canLayAll0 (ts.map Tok.d) && decide (PyData.depthAll (ts.map Tok.d) + 1 ≤ 64)) = true
  rw [h1, decide_eq_true (by omega)]
  rfl
end K3

set_option Elab.async false
set_option linter.all false
set_option pp.maxSteps 700
set_option maxRecDepth 100000
set_option maxHeartbeats 4000000
namespace K3
open PySem PySem.Spec PyProof.Rows L2
open TL (tl)
abbrev sCI : Stmt := inClass (top 37) 0
abbrev sBeginsC : Stmt := inClass (top 37) 1
abbrev sTells : Stmt := inClass (top 37) 2
abbrev sTake : Stmt := inClass (top 37) 3
abbrev sTakeF : Stmt := inClass (top 37) 4
abbrev sTakeW : Stmt := inClass (top 37) 5
abbrev sTakeN : Stmt := inClass (top 37) 7
abbrev sTakeE : Stmt := inClass (top 37) 8
abbrev sTakeI : Stmt := inClass (top 37) 9
theorem paired_at {α β : Type} {F : α → β → Prop} : ∀ {xs : List α} {ts : List β}, Paired F xs ts → ∀ {j : Nat} {y : α}, xs[j]? = some y → ∃ t, ts[j]? = some t ∧ F y t
  | _, _, .nil, _, _, h => by cases h
  | _, _, .cons h r, 0, _, e => by
    obtain rfl := Option.some.inj e
    exact ⟨_, rfl, h⟩
  | _, _, .cons h r, j + 1, _, e => paired_at r (j := j) e
/-! ### the cursor -/
def cflds (L : Addr) (at_ : Int) : List (Str × V) := putF "is_over" (.bl false) (putF "at" (.int at_) (putF "completes" (.bl false) (putF "tokens" (.ref L) [])))
theorem cf_eq (L : Addr) (i : Int) : cflds L i = ([("tokens", .ref L), ("completes", .bl false), ("at", .int i), ("is_over", .bl false)] : List (Str × V)) := by
  unfold cflds
  have k1 : ¬ (("tokens" : Str) = "completes") := by decide +kernel
  have k2 : ¬ (("tokens" : Str) = "at") := by decide +kernel
  have k3 : ¬ (("tokens" : Str) = "is_over") := by decide +kernel
  have k4 : ¬ (("completes" : Str) = "at") := by decide +kernel
  have k5 : ¬ (("completes" : Str) = "is_over") := by decide +kernel
  have k6 : ¬ (("at" : Str) = "is_over") := by decide +kernel
  simp only [putF, if_neg k1, if_neg k2, if_neg k3, if_neg k4, if_neg k5, if_neg k6]
theorem cf_tok (L : Addr) (i : Int) : (cflds L i).lookup ("tokens" : Str) = some (.ref L) := by
  unfold cflds
  rw [lookup_putF, if_neg (by decide +kernel), lookup_putF, if_neg (by decide +kernel), lookup_putF, if_neg (by decide +kernel), lookup_putF, if_pos rfl]
theorem cf_com (L : Addr) (i : Int) : (cflds L i).lookup ("completes" : Str) = some (.bl false) := by
  unfold cflds
  rw [lookup_putF, if_neg (by decide +kernel), lookup_putF, if_neg (by decide +kernel), lookup_putF, if_pos rfl]
theorem cf_at (L : Addr) (i : Int) : (cflds L i).lookup ("at" : Str) = some (.int i) := by
  unfold cflds
  rw [lookup_putF, if_neg (by decide +kernel), lookup_putF, if_pos rfl]
theorem cf_ov (L : Addr) (i : Int) : (cflds L i).lookup ("is_over" : Str) = some (.bl false) := by
  unfold cflds
  rw [lookup_putF, if_pos rfl]
theorem cf_no (L : Addr) (i : Int) {m : Str} (h : m ∉ (["tokens", "completes", "at", "is_over"] : List Str)) : (cflds L i).lookup m = none := by
  simp only [List.mem_cons, List.not_mem_nil, or_false, not_or] at h
  unfold cflds
  rw [lookup_putF, if_neg h.2.2.2, lookup_putF, if_neg h.2.2.1, lookup_putF, if_neg h.2.1, lookup_putF, if_neg h.1]
  rfl
theorem cf_put (L : Addr) (i j : Int) : putF "at" (.int j) (cflds L i) = cflds L j := by
  rw [cf_eq, cf_eq]
  have k2 : ¬ (("tokens" : Str) = "at") := by decide +kernel
  have k4 : ¬ (("completes" : Str) = "at") := by decide +kernel
  simp only [putF, if_neg k2, if_neg k4, if_true]
/-- a cursor at p over the tokens ts that the list L holds, at the i-th one; it doesn't complete -/
structure CurAt (C : Addr) (H : Hp) (p L : Addr) (ts : List Tok) (i : Nat) : Prop where
  ob : ∃ dx, H p = some (.ins C dx (cflds L i))
  ls : ∃ xs, H L = some (.lst xs) ∧ Paired (TokAt H) xs ts ∧ xs.length ≤ 16000000
  lt : i < ts.length
/-- all but the cursor stands as before -/
def SameC (p : Addr) (H H' : Hp) : Prop := ∀ b o, H b = some o → b ≠ p → H' b = some o
theorem SameC.of {p : Addr} {H H' : Hp} (s : Same H H') : SameC p H H' := fun b o e _ => s b o e
theorem SameC.trans {p : Addr} {H H' H'' : Hp} (s : SameC p H H') (t : SameC p H' H'') : SameC p H H'' := fun b o e n => t b o (s b o e n) n
theorem CurAt.keep {C : Addr} {H H' : Hp} {p L : Addr} {ts : List Tok} {i : Nat} (S : CurAt C H p L ts i) (s : Same H H') : CurAt C H' p L ts i := by
  obtain ⟨⟨dx, e⟩, ⟨xs, h1, h2, h3⟩, h4⟩ := S
  exact ⟨⟨dx, s _ _ e⟩, ⟨xs, s _ _ h1, toks_keep (KT.of s) h2, h3⟩, h4⟩
theorem CurAt.put {C : Addr} {H : Hp} {p L : Addr} {ts : List Tok} {i j : Nat} (S : CurAt C H p L ts i) (hj : j < ts.length) {dx : Addr} : CurAt C (upd H p (.ins C dx (cflds L j))) p L ts j := by
  obtain ⟨⟨dx', e⟩, ⟨xs, h1, h2, h3⟩, h4⟩ := S
  have n1 : L ≠ p := fun z => by
    rw [z, e] at h1
    cases h1
  refine ⟨⟨dx, upd_same⟩, ⟨xs, by rw [upd_ne n1]; exact h1, Paired.mapP h2 fun v t ⟨a, ea, ha⟩ => ⟨a, ea, ?_⟩, h3⟩, hj⟩
  have n2 : a ≠ p := fun z => by
    rw [z, e] at ha
    cases ha
  rw [upd_ne n2]
  exact ha
theorem CurAt.at_ {C : Addr} {H : Hp} {p L : Addr} {ts : List Tok} {i : Nat} (S : CurAt C H p L ts i) : ∃ (dx : Addr) (xs : List V) (b : Addr) (t : Tok), H p = some (.ins C dx (cflds L i)) ∧ H L = some (.lst xs) ∧ ts[i]? = some t ∧ xs.length = ts.length ∧ atI xs (i : Int) = some (.ref b) ∧ H b = some (.tup t.vs) ∧ xs.length ≤ 16000000 := by
  obtain ⟨⟨dx, e⟩, ⟨xs, h1, h2, h3⟩, h4⟩ := S
  have hl := paired_len h2
  obtain ⟨v, hv⟩ : ∃ v, xs[i]? = some v := ⟨xs[i]'(by omega), List.getElem?_eq_getElem (by omega)⟩
  obtain ⟨t, ht, b, rfl, hb⟩ := paired_at h2 hv
  exact ⟨dx, xs, b, t, e, h1, ht, hl, atI_nat hv, hb, h3⟩
/-- where the cursor goes on -/
def nx (ts : List Tok) (i : Nat) : Nat := min (i + 1) (ts.length - 1)
theorem nx_lt {ts : List Tok} {i : Nat} (h : i < ts.length) : nx ts i < ts.length := by
  unfold nx
  omega
structure MgCu (K : PySem.W.Frag) (mg : Str → Option Value) (C CE E fI fB fT fK fF fW fN fN2 fX : Addr) : Prop where
  cl : Cls K C
  nT : NoAttr K C "tokens"
  nC : NoAttr K C "completes"
  nA : NoAttr K C "at"
  nO : NoAttr K C "is_over"
  mTI : Meth K C "take_if" fX
  mTk : Meth K C "take" fK
  mTF : Meth K C "take_first" fF
  mB : Meth K C "begins" fB
  mT : Meth K C "tells" fT
  min : mg "min" = none
  len : mg "len" = none
  str : mg "str" = none
  int : mg "int" = none
  cx : MgC K mg CE E
  mE : mg "BadText" = some (.ref E)
  iE : PySem.W.findIn K (.ref E) "__init__" = some (some (.ref fI))
  tI : PySem.W.typeIn K (.ref fI) = some (.type "function")
  et : ∃ t, mg "END_OF_TEXT" = some (.str etS t)
def ixP : Option Int → PyData
  | some i => .int i
  | none => .none
theorem dec_str {x y : Str} : decide (V.str x = V.str y) = decide (x = y) := by simp
theorem ixV_p {K : PySem.W.Frag} {H : Hp} (i : Option Int) : Dp K H (match i with | some i => V.int i | none => V.non) (ixP i) := by
  cases i with
  | none => exact .non
  | some i => exact .int i
theorem ixp_sh (i : Option Int) : SeqAt.shaped (ixP i) = true := by cases i <;> rfl
theorem ixp_eq (o : Option Int) (j : Int) : PyData.eqv (ixP o) (.int j) = decide (o = some j) := by
  cases o with
  | none => simp [PyData.eqv, ixP]
  | some z =>
    simp only [PyData.eqv, ixP, Option.some.injEq]
    by_cases h : z = j
    · rw [decide_eq_true h, h]
      simp
    · rw [decide_eq_false h]
      simpa using h
def errF (t : Tok) : List (Str × V) := fs11 t.n t.c
/-- the token at i is taken, or it is a wrong one -/
def spTakeI (C E : Addr) : Sp := fun vs H Q Ex => ∃ (p L : Addr) (ts : List Tok) (i : Nat) (b : Bool) (y : V) (t : Tok), vs = [.ref p, .bl b, y] ∧ CurAt C H p L ts i ∧ ts[i]? = some t ∧
  (b = true → ∀ H', SameC p H H' → CurAt C H' p L ts (nx ts i) → Q (.str t.s) H') ∧ (b = false → ∀ (d : Addr) (H' : Hp), Same H H' → H' d = some (.xd (errF t)) → Ex (.ref E) (some d) H')
def spBegC (C : Addr) : Sp := fun vs H Q _ => ∃ (p L : Addr) (ts : List Tok) (i : Nat) (t : Tok) (j : Int), vs = [.ref p, .int j] ∧ CurAt C H p L ts i ∧ ts[i]? = some t ∧ Q (.bl (decide (t.i = some j))) H
def spTel (C : Addr) : Sp := fun vs H Q _ => ∃ (p L : Addr) (ts : List Tok) (i : Nat) (t : Tok) (x : Str), vs = [.ref p, .str x] ∧ CurAt C H p L ts i ∧ ts[i]? = some t ∧ Q (.bl (decide (t.s = x))) H
section
variable {P : Program} {w : World} {K : PySem.W.Frag} {mg : Str → Option Value} {base : Heap}
variable {C CE E fI fB fT fK fF fW fN fN2 fX : Addr} {fdI fdB fdT fdK fdF fdW fdX : FuncData}
theorem scCI : FnScope ["self", "tokens", "completes"] ["self", "tokens", "completes"] (defScope sCI) := ⟨rfl, rfl, rfl, by decide +kernel, rfl, by decide +kernel, by decide +kernel⟩
def spCI (C : Addr) : Sp := fun vs H Q _ => ∃ (p L dx : Addr), vs = [.ref p, .ref L, .bl false] ∧ H p = some (.ins C dx []) ∧ Q .non (upd H p (.ins C dx (cflds L 0)))
theorem ok_CI {f : Addr} {fd : FuncData} (F : Fun K "__init__" "Cursor.__init__" sCI f fd) (T : MgCu K mg C CE E fI fB fT fK fF fW fN fN2 fX) : FnOk P w K mg base CX0 1 f fd ["self", "tokens", "completes"] (spCI C) := by
  refine F.ok scCI (fun vs H Q E h => ?_) (fun cdv A outer s H vs Q E hr h => ?_)
  · obtain ⟨p, L, dx, rfl, _⟩ := h
    rfl
  · obtain ⟨p, L, dx, rfl, hp, k⟩ := h
    refine ⟨_, (pss_cons (ps_fld (pv 0) (pv 1) rfl)
      (pss_cons (ps_fld (pv 0) (pv 2) rfl)
      (pss_cons (ps_fld (pv 0) pe_int rfl)
      (pss_one (ps_fld (pv 0) pe_bl rfl))))), ?_⟩
    refine ⟨_, rfl, _, rfl, p, C, dx, [], rfl, hp, T.cl, T.nT, (by show 0 < 1000; decide), ?_⟩
    refine ⟨_, rfl, _, rfl, p, C, dx, _, rfl, upd_same, T.cl, T.nC, (by show 1 < 1000; decide), ?_⟩
    refine ⟨_, rfl, p, C, dx, _, rfl, upd_same, T.cl, T.nA, (by show 2 < 1000; decide), ?_⟩
    refine ⟨_, rfl, p, C, dx, _, rfl, upd_same, T.cl, T.nO, (by show 3 < 1000; decide), ?_⟩
    rw [upd_upd, upd_upd, upd_upd]
    exact k
theorem scTI : FnScope ["self", "is_right", "instead", "line", "column", "_", "token"] ["self", "is_right", "instead"] (defScope sTakeI) := ⟨rfl, rfl, rfl, by decide +kernel, rfl, by decide +kernel, by decide +kernel⟩
theorem ok_TI {fd : FuncData} (F : Fun K "take_if" "Cursor.take_if" sTakeI fX fd) (T : MgCu K mg C CE E fI fB fT fK fF fW fN fN2 fX) (FI : Fun K "__init__" "BadText.__init__" sInit fI fdI) (bI : L2.Binds K fdI ["self", "line", "column"] []) :
    FnOk P w K mg base (L2.CX P w) 3 fX fd ["self", "is_right", "instead"] (spTakeI C E) := by
  have GI : FnOk P w K mg base CX0 1 fI fdI ["self", "line", "column"] (spInit K E) := ok_init FI T.cx
  refine F.okX scTI (fun vs H Q E h => ?_) (fun cdv A outer s H vs Q Ex hr h => ?_)
  · obtain ⟨p, L, ts, i, b, y, t, rfl, _⟩ := h
    rfl
  · obtain ⟨p, L, ts, i, b, y, t, rfl, S, ht, k1, k2⟩ := h
    refine ⟨_, (pss_cons (ps_asg (pe_ix ix_list (pe_fld (pv 0) rfl) (pe_fld (pv 0) rfl) (fun _ _ => rfl)) (pg_tup (by rfl) (pgs_cons (pg_name (i := 3) scTI.nd rfl (Or.inl rfl)) (pgs_cons (pg_name (i := 4) scTI.nd rfl (Or.inl rfl)) (pgs_cons (pg_name (i := 5) scTI.nd rfl (Or.inl rfl)) (pgs_cons (pg_name (i := 6) scTI.nd rfl (Or.inl rfl)) pgs_nil))))))
      (pss_cons (ps_if (pt_val (pv 1)) (pss_cons (ps_fld (pv 0) (pe_callB (call_min2 rfl) (by rfl) T.min PyProof.Rows.boot_min (pa_cons (pe_op op_add (pe_fld (pv 0) rfl) pe_int) (pa_cons (pe_op op_sub (pe_callB call_len_seq (by rfl) T.len PySem.boot_len (pa_cons (pe_fld (pv 0) rfl) pa_nil)) pe_int) pa_nil))) rfl)
          (pss_one (ps_ret (pv 6)))) pss_nil)
      (pss_cons (ps_if (pt_not (pt_val (pe_fld (pv 0) rfl))) (pss_one (ps_raise rfl (takes_of rfl rfl rfl rfl) (pmk_oex T.cx.ox T.iE T.tI GI hr bI .nil pass0 (by rfl) T.mE (pa_cons (pv 3) (pa_cons (pv 4) pa_nil))))) pss_nil)
      (pss_cons (ps_fld (pv 0) pe_bl rfl)
      (pss_one (ps_ret (pv 2))))))), ?_⟩
    obtain ⟨dx, xs, bt, t', hp, hL, ht', hl, hat, hb, hxs⟩ := S.at_
    obtain rfl : t = t' := Option.some.inj (ht.symm.trans ht')
    have hi := S.lt
    refine ⟨_, rfl, p, C, dx, _, _, rfl, hp, T.cl, T.nT, cf_tok _ _, _, rfl, p, C, dx, _, _, rfl, hp, T.cl, T.nA, cf_at _ _, L, xs, _, _, rfl, rfl, SqL.of hL, hat, ?_⟩
    refine ⟨bt, _, rfl, .inl (.inl hb), (by rfl), _, _, rfl, _, _, rfl, _, _, rfl, _, _, rfl, rfl, ?_⟩
    refine ⟨_, rfl, b, rfl, ?_⟩
    cases b with
    | true =>
      refine iteT ?_
      refine ⟨_, rfl, p, C, dx, _, _, rfl, hp, T.cl, T.nA, cf_at _ _, _, _, rfl, rfl, _, rfl, p, C, dx, _, _, rfl, hp, T.cl, T.nT, cf_tok _ _, L, xs, rfl, .inl (SqL.of hL), _, _, rfl, rfl, _, _, rfl, ?_⟩
      refine ⟨_, rfl, p, C, dx, _, rfl, hp, T.cl, T.nA, (by rw [cf_eq]; show 4 < 1000; decide), ?_⟩
      refine ⟨_, rfl, ?_⟩
      have e1 : (if ((xs.length : Nat) : Int) - 1 < ((i : Nat) : Int) + 1 then ((xs.length : Nat) : Int) - 1 else ((i : Nat) : Int) + 1) = ((nx ts i : Nat) : Int) := by
        unfold nx
        split <;> omega
      rw [e1, cf_put]
      exact k1 rfl _ (fun b o e n => by rw [upd_ne n]; exact e) (S.put (nx_lt hi))
    | false =>
      refine iteF ?_
      refine ⟨_, rfl, p, C, dx, _, _, rfl, hp, T.cl, T.nC, cf_com _ _, ?_⟩
      refine ⟨false, rfl, ?_⟩
      refine iteT ?_
      refine ⟨_, rfl, _, rfl, (by show 2 ≤ 1000; decide), fun a ha => ?_⟩
      refine ⟨a, .int t.n, .int t.c, rfl, upd_same, fun d H' hd hda h1 h2 hk2 => ⟨rfl, d, _, h1, h2, ?_, ?_⟩⟩
      · rw [upd_ne hda] at hd
        exact hd
      · rw [upd_ne hda] at hd
        refine k2 rfl d _ (fun b o e => ?_) upd_same
        have hba : b ≠ a := ne_of_none e ha
        have hbd : b ≠ d := ne_of_none e hd
        rw [upd_ne hbd, del_ne hba, hk2 b hba hbd, upd_ne hba]
        exact e
theorem scBegC : FnScope ["self", "indent"] ["self", "indent"] (defScope sBeginsC) := ⟨rfl, rfl, rfl, by decide +kernel, rfl, by decide +kernel, by decide +kernel⟩
theorem ok_Beg {fd : FuncData} (F : Fun K "begins" "Cursor.begins" sBeginsC fB fd) (T : MgCu K mg C CE E fI fB fT fK fF fW fN fN2 fX) : FnOk P w K mg base CX0 1 fB fd ["self", "indent"] (spBegC C) := by
  refine F.ok scBegC (fun vs H Q E h => ?_) (fun cdv A outer s H vs Q Ex hr h => ?_)
  · obtain ⟨p, L, ts, i, t, j, rfl, _⟩ := h
    rfl
  · obtain ⟨p, L, ts, i, t, j, rfl, S, ht, k⟩ := h
    refine ⟨_, (pss_one (ps_ret (pe_and (pe_not (pe_fld (pv 0) rfl)) (pe_one (pe_cmpR (op_eqD hr.units) (pe_ix ix_tup (pe_ix ix_list (pe_fld (pv 0) rfl) (pe_fld (pv 0) rfl) (fun _ _ => rfl)) pe_int (fun _ _ => rfl)) (pv 1) (nomark _)))))), ?_⟩
    obtain ⟨dx, xs, bt, t', hp, hL, ht', hl, hat, hb, hxs⟩ := S.at_
    obtain rfl : t = t' := Option.some.inj (ht.symm.trans ht')
    have hi := S.lt
    refine ⟨_, rfl, p, C, dx, _, _, rfl, hp, T.cl, T.nO, cf_ov _ _, false, rfl, true, rfl, ?_⟩
    refine iteT ?_
    refine ⟨_, rfl, p, C, dx, _, _, rfl, hp, T.cl, T.nT, cf_tok _ _, _, rfl, p, C, dx, _, _, rfl, hp, T.cl, T.nA, cf_at _ _, L, xs, _, _, rfl, rfl, SqL.of hL, hat, ?_⟩
    refine ⟨bt, _, 2, _, rfl, rfl, .inl (.inl hb), atI_nat (xs := t.vs) (j := 2) rfl, ?_⟩
    refine ⟨_, rfl, _, _, ixV_p t.i, .int j, ixp_sh _, rfl, ?_⟩
    rw [ixp_eq]
    exact k
theorem scTel : FnScope ["self", "token"] ["self", "token"] (defScope sTells) := ⟨rfl, rfl, rfl, by decide +kernel, rfl, by decide +kernel, by decide +kernel⟩
theorem ok_Tel {fd : FuncData} (F : Fun K "tells" "Cursor.tells" sTells fT fd) (T : MgCu K mg C CE E fI fB fT fK fF fW fN fN2 fX) : FnOk P w K mg base CX0 1 fT fd ["self", "token"] (spTel C) := by
  refine F.ok scTel (fun vs H Q E h => ?_) (fun cdv A outer s H vs Q Ex hr h => ?_)
  · obtain ⟨p, L, ts, i, t, x, rfl, _⟩ := h
    rfl
  · obtain ⟨p, L, ts, i, t, x, rfl, S, ht, k⟩ := h
    refine ⟨_, (pss_one (ps_ret (pe_and (pe_not (pe_fld (pv 0) rfl)) (pe_one (pe_cmpR op_eq (pe_ix ix_tup (pe_ix ix_list (pe_fld (pv 0) rfl) (pe_fld (pv 0) rfl) (fun _ _ => rfl)) pe_int (fun _ _ => rfl)) (pv 1) (nomark _)))))), ?_⟩
    obtain ⟨dx, xs, bt, t', hp, hL, ht', hl, hat, hb, hxs⟩ := S.at_
    obtain rfl : t = t' := Option.some.inj (ht.symm.trans ht')
    have hi := S.lt
    refine ⟨_, rfl, p, C, dx, _, _, rfl, hp, T.cl, T.nO, cf_ov _ _, false, rfl, true, rfl, ?_⟩
    refine iteT ?_
    refine ⟨_, rfl, p, C, dx, _, _, rfl, hp, T.cl, T.nT, cf_tok _ _, _, rfl, p, C, dx, _, _, rfl, hp, T.cl, T.nA, cf_at _ _, L, xs, _, _, rfl, rfl, SqL.of hL, hat, ?_⟩
    refine ⟨bt, _, 3, _, rfl, rfl, .inl (.inl hb), atI_nat (xs := t.vs) (j := 3) rfl, ?_⟩
    refine ⟨_, rfl, rfl, ?_⟩
    rw [dec_str]
    exact k
end
end K3

set_option Elab.async false
set_option linter.all false
set_option pp.maxSteps 700
set_option maxRecDepth 100000
set_option maxHeartbeats 4000000
namespace K3
open PySem PySem.Spec PyProof.Rows L2
open TL (tl)
theorem sqt_keep {K : PySem.W.Frag} {H H' : Hp} {r : Addr} {ys : List V} (s : Same H H') (h : SqT K H r ys) : SqT K H' r ys := h.elim (fun z => .inl (z.elim (fun e => .inl (s _ _ e)) (fun ⟨o, e⟩ => .inr ⟨o, s _ _ e⟩))) .inr
def Sq (K : PySem.W.Frag) (H : Hp) (r : Addr) (ss : List Str) : Prop := SqL K H r (ss.map V.str) ∨ SqT K H r (ss.map V.str)
theorem Sq.keep {K : PySem.W.Frag} {H H' : Hp} {r : Addr} {ss : List Str} (h : Sq K H r ss) (s : Same H H') : Sq K H' r ss := h.elim (fun z => .inl (s.seq z)) (fun z => .inr (sqt_keep s z))
theorem flat_strs (ss : List Str) : (ss.map V.str).all flatV = true := by
  rw [List.all_eq_true]
  intro v hv
  obtain ⟨x, _, rfl⟩ := List.mem_map.mp hv
  rfl
theorem rix_sq {K : PySem.W.Frag} {H : Hp} {r : Addr} {x : Str} {ss : List Str} {Q : VK} (hq : Sq K H r (x :: ss)) (q : Q (.str x) H) : rIx K (.ref r) (.int 0) H Q :=
  hq.elim (fun z => .inl ⟨r, _, 0, _, rfl, rfl, z, atI_nat (xs := (x :: ss).map V.str) (j := 0) rfl, q⟩) (fun z => .inr (.inl ⟨r, _, 0, _, rfl, rfl, z, atI_nat (xs := (x :: ss).map V.str) (j := 0) rfl, q⟩))
/-- one of the rights is taken, or the token is wrong -/
def spTake (K : PySem.W.Frag) (C E : Addr) : Sp := fun vs H Q Ex => ∃ (p L : Addr) (ts : List Tok) (i : Nat) (t : Tok) (r : Addr) (x : Str) (ss : List Str), vs = [.ref p, .ref r] ∧ CurAt C H p L ts i ∧ ts[i]? = some t ∧ Sq K H r (x :: ss) ∧
  (t.s ∈ x :: ss → ∀ H', SameC p H H' → CurAt C H' p L ts (nx ts i) → Q (.str t.s) H') ∧ (t.s ∉ x :: ss → ∀ (d : Addr) (H' : Hp), Same H H' → H' d = some (.xd (errF t)) → Ex (.ref E) (some d) H')
/-- take_first where the token doesn't begin a line so -/
def spTakeF (K : PySem.W.Frag) (C E : Addr) : Sp := fun vs H Q Ex => ∃ (p L : Addr) (ts : List Tok) (i : Nat) (t : Tok) (r : Addr) (x : Str) (ss : List Str) (j : Int), vs = [.ref p, .int j, .ref r] ∧ CurAt C H p L ts i ∧ ts[i]? = some t ∧ Sq K H r (x :: ss) ∧ t.i ≠ some j ∧
  (∀ (d : Addr) (H' : Hp), Same H H' → H' d = some (.xd (errF t)) → Ex (.ref E) (some d) H')
def spTakeE (C E : Addr) : Sp := fun vs H Q Ex => ∃ (p L : Addr) (ts : List Tok) (i : Nat) (t : Tok), vs = [.ref p] ∧ CurAt C H p L ts i ∧ ts[i]? = some t ∧
  (t.s = etS → ∀ H', SameC p H H' → CurAt C H' p L ts (nx ts i) → Q .non H') ∧ (t.s ≠ etS → ∀ (d : Addr) (H' : Hp), Same H H' → H' d = some (.xd (errF t)) → Ex (.ref E) (some d) H')
section
variable {P : Program} {w : World} {K : PySem.W.Frag} {mg : Str → Option Value} {base : Heap}
variable {C CE E fI fB fT fK fF fW fN fN2 fX : Addr} {fdI fdB fdT fdK fdF fdW fdX : FuncData}
theorem scTake : FnScope ["self", "rights"] ["self", "rights"] (defScope sTake) := ⟨rfl, rfl, rfl, by decide +kernel, rfl, by decide +kernel, by decide +kernel⟩
theorem scTakeF : FnScope ["self", "indent", "rights"] ["self", "indent", "rights"] (defScope sTakeF) := ⟨rfl, rfl, rfl, by decide +kernel, rfl, by decide +kernel, by decide +kernel⟩
theorem scTakeE : FnScope ["self"] ["self"] (defScope sTakeE) := ⟨rfl, rfl, rfl, by decide +kernel, rfl, by decide +kernel, by decide +kernel⟩
variable (T : MgCu K mg C CE E fI fB fT fK fF fW fN fN2 fX) (GX : FnOk P w K mg base (L2.CX P w) 3 fX fdX ["self", "is_right", "instead"] (spTakeI C E)) (bX : L2.Binds K fdX ["self", "is_right", "instead"] [])
include T GX bX
theorem ok_Take {fd : FuncData} (F : Fun K "take" "Cursor.take" sTake fK fd) : FnOk P w K mg base (L2.CX P w) 4 fK fd ["self", "rights"] (spTake K C E) := by
  refine F.okX scTake (fun vs H Q E h => ?_) (fun cdv A outer s H vs Q Ex hr h => ?_)
  · obtain ⟨p, L, ts, i, t, r, x, ss, rfl, _⟩ := h
    rfl
  · obtain ⟨p, L, ts, i, t, r, x, ss, rfl, S, ht, hq, k1, k2⟩ := h
    refine ⟨_, (pss_one (ps_ret (pe_meth (pv 0) T.cl T.mTI GX hr bX .nil (passes_call (takes_of rfl rfl rfl rfl) (fun _ _ _ _ h => h)) (pa_cons (pe_and (pe_not (pe_fld (pv 0) rfl)) (pe_one (pe_cmpR op_in_seq (pe_ix ix_tup (pe_ix ix_list (pe_fld (pv 0) rfl) (pe_fld (pv 0) rfl) (fun _ _ => rfl)) pe_int (fun _ _ => rfl)) (pv 1) (by rfl)))) (pa_cons (pe_ix ix_seq (pv 1) pe_int (fun _ _ => rfl)) pa_nil))))), ?_⟩
    obtain ⟨dx, xs, bt, t', hp, hL, ht', hl, hat, hb, hxs⟩ := S.at_
    obtain rfl : t = t' := Option.some.inj (ht.symm.trans ht')
    have hi := S.lt
    refine ⟨_, rfl, p, dx, _, rfl, hp, cf_no _ _ (by decide +kernel), ?_⟩
    refine ⟨_, rfl, p, C, dx, _, _, rfl, hp, T.cl, T.nO, cf_ov _ _, false, rfl, true, rfl, ?_⟩
    refine iteT ?_
    refine ⟨_, rfl, p, C, dx, _, _, rfl, hp, T.cl, T.nT, cf_tok _ _, _, rfl, p, C, dx, _, _, rfl, hp, T.cl, T.nA, cf_at _ _, L, xs, _, _, rfl, rfl, SqL.of hL, hat, ?_⟩
    refine ⟨bt, _, 3, _, rfl, rfl, .inl (.inl hb), atI_nat (xs := t.vs) (j := 3) rfl, ?_⟩
    refine ⟨_, rfl, r, _, rfl, hq, rfl, flat_strs _, ?_⟩
    refine ⟨_, rfl, rix_sq hq ?_⟩
    rw [show (if false = true then !inV (V.str t.s) ((x :: ss).map V.str) else inV (V.str t.s) ((x :: ss).map V.str)) = decide (t.s ∈ x :: ss) from inV_str]
    refine ⟨p, L, ts, i, _, _, t, rfl, S, ht, fun e H' s1 c1 => k1 (of_decide_eq_true e) H' s1 c1, fun e d H' s1 h1 => k2 (of_decide_eq_false e) d H' s1 h1⟩
theorem ok_TakeF {fd : FuncData} (F : Fun K "take_first" "Cursor.take_first" sTakeF fF fd) (GB : FnOk P w K mg base CX0 1 fB fdB ["self", "indent"] (spBegC C)) (bB : L2.Binds K fdB ["self", "indent"] []) : FnOk P w K mg base (L2.CX P w) 4 fF fd ["self", "indent", "rights"] (spTakeF K C E) := by
  refine F.okX scTakeF (fun vs H Q E h => ?_) (fun cdv A outer s H vs Q Ex hr h => ?_)
  · obtain ⟨p, L, ts, i, t, r, x, ss, j, rfl, _⟩ := h
    rfl
  · obtain ⟨p, L, ts, i, t, r, x, ss, j, rfl, S, ht, hq, hj, k2⟩ := h
    have hr1 : Room 1 _ := hr.mono (by omega)
    refine ⟨_, (pss_one (ps_ret (pe_meth (pv 0) T.cl T.mTI GX hr bX .nil (passes_call (takes_of rfl rfl rfl rfl) (fun _ _ _ _ h => h)) (pa_cons (pe_and (pe_meth (pv 0) T.cl T.mB GB hr1 bB .nil pass0 (pa_cons (pv 1) pa_nil)) (pe_one (pe_cmpR op_in_seq (pe_ix ix_tup (pe_ix ix_list (pe_fld (pv 0) rfl) (pe_fld (pv 0) rfl) (fun _ _ => rfl)) pe_int (fun _ _ => rfl)) (pv 2) (by rfl)))) (pa_cons (pe_ix ix_seq (pv 2) pe_int (fun _ _ => rfl)) pa_nil))))), ?_⟩
    obtain ⟨dx, xs, bt, t', hp, hL, ht', hl, hat, hb, hxs⟩ := S.at_
    have hi := S.lt
    refine ⟨_, rfl, p, dx, _, rfl, hp, cf_no _ _ (by decide +kernel), ?_⟩
    refine ⟨_, rfl, p, dx, _, rfl, hp, cf_no _ _ (by decide +kernel), ?_⟩
    refine ⟨_, rfl, p, L, ts, i, t, j, rfl, S, ht, ?_⟩
    refine ⟨_, rfl, ?_⟩
    rw [decide_eq_false hj]
    refine iteF ?_
    refine ⟨_, rfl, rix_sq hq ?_⟩
    exact ⟨p, L, ts, i, false, _, t, rfl, S, ht, (fun e => by cases e), fun _ d H' s1 h1 => k2 d H' s1 h1⟩
theorem ok_TakeE {fd : FuncData} (F : Fun K "take_end" "Cursor.take_end" sTakeE fN2 fd) (GT : FnOk P w K mg base CX0 1 fT fdT ["self", "token"] (spTel C)) (bT : L2.Binds K fdT ["self", "token"] []) : FnOk P w K mg base (L2.CX P w) 4 fN2 fd ["self"] (spTakeE C E) := by
  refine F.okX scTakeE (fun vs H Q E h => ?_) (fun cdv A outer s H vs Q Ex hr h => ?_)
  · obtain ⟨p, L, ts, i, t, rfl, _⟩ := h
    rfl
  · obtain ⟨p, L, ts, i, t, rfl, S, ht, k1, k2⟩ := h
    have hr1 : Room 1 _ := hr.mono (by omega)
    obtain ⟨te, me⟩ := T.et
    refine ⟨_, (pss_one (ps_expr (pe_meth (pv 0) T.cl T.mTI GX hr bX .nil (passes_call (takes_of rfl rfl rfl rfl) (fun _ _ _ _ h => h)) (pa_cons (pe_meth (pv 0) T.cl T.mT GT hr1 bT .nil pass0 (pa_cons (pe_glob (v := .str etS) (by rfl) me ⟨_, rfl⟩) pa_nil)) (pa_cons (pe_glob (v := .str etS) (by rfl) me ⟨_, rfl⟩) pa_nil))))), ?_⟩
    obtain ⟨dx, xs, bt, t', hp, hL, ht', hl, hat, hb, hxs⟩ := S.at_
    have hi := S.lt
    refine ⟨_, rfl, p, dx, _, rfl, hp, cf_no _ _ (by decide +kernel), ?_⟩
    refine ⟨_, rfl, p, dx, _, rfl, hp, cf_no _ _ (by decide +kernel), ?_⟩
    refine ⟨p, L, ts, i, t, etS, rfl, S, ht, ?_⟩
    exact ⟨p, L, ts, i, _, _, t, rfl, S, ht, fun e H' s1 c1 => k1 (of_decide_eq_true e) H' s1 c1, fun e d H' s1 h1 => k2 (of_decide_eq_false e) d H' s1 h1⟩
end
end K3

set_option Elab.async false
set_option linter.all false
set_option pp.maxSteps 700
set_option maxRecDepth 100000
set_option maxHeartbeats 4000000
namespace K3
open PySem PySem.Spec PyProof.Rows L2
open TL (tl)
abbrev sIWT : Stmt := top 35
/-! ### whole numbers as texts -/
theorem one_eq (c : Nat) : (V.str ⟨#[c]⟩ = V.str ("0" : Str)) ↔ c = 48 := by
  have e : ("0" : Str) = ⟨#[48]⟩ := by decide +kernel
  rw [e]
  constructor
  · intro h
    injection h with h
    injection h with h
    simpa using h
  · rintro rfl
    rfl
def isDig (c : Nat) : Bool := decide (c ∈ D10.cps.toList)
theorem isDig_iff (c : Nat) : isDig c = true ↔ 48 ≤ c ∧ c ≤ 57 := by
  unfold isDig
  have e : D10.cps.toList = [48, 49, 50, 51, 52, 53, 54, 55, 56, 57] := by decide +kernel
  rw [e, decide_eq_true_iff]
  simp only [List.mem_cons, List.not_mem_nil, or_false]
  omega
def wv (x : Str) : Int := ((NumText.digitsVal (tl x) : Nat) : Int)
def wholeB (x : Str) (lo hi : Int) : Bool := decide (1 ≤ x.length) && (decide (x.length ≤ 5) && ((tl x).all isDig && (!(decide ((tl x).getD 0 0 = 48) && !decide (x = ("0" : Str))) && (decide (lo ≤ wv x) && decide (wv x ≤ hi)))))
theorem wv_text {x : Str} (h1 : 1 ≤ x.length) (h2 : x.length ≤ 5) (h3 : (tl x).all isDig = true) : PySem.intText? x = some (wv x) := by
  refine intText_digits (fun c hc => (isDig_iff c).mp (List.all_eq_true.mp h3 c hc)) (fun e => ?_) (by omega)
  have := TL.len_tl x
  have e' : tl x = [] := e
  rw [e'] at this
  have z : x.length = 0 := this
  omega
def spIWT : Sp := fun vs H Q _ => ∃ (x : Str) (lo hi : Int), vs = [.str x, .int lo, .int hi] ∧ x.length ≤ 1000000 ∧ ∀ H', Same H H' → Q (.bl (wholeB x lo hi)) H'
structure MgWt (K : PySem.W.Frag) (mg : Str → Option Value) (fWT : Addr) : Prop where
  len : mg "len" = none
  all : mg "all" = none
  int : mg "int" = none
  str : mg "str" = none
  digt : ∃ t, mg "DIGITS" = some (.str D10 t)
  mdi : ∃ t, mg "MOST_DIGITS" = some (.int 5 t)
  wt : mg "is_whole_text" = some (.ref fWT)
  kwt : PySem.W.keepIn K (.ref fWT) = true
section
variable {P : Program} {w : World} {K : PySem.W.Frag} {mg : Str → Option Value} {base : Heap}
theorem scIWT : FnScope ["token", "low", "high", "sign"] ["token", "low", "high"] (defScope sIWT) := ⟨rfl, rfl, rfl, by decide +kernel, rfl, by decide +kernel, by decide +kernel⟩
theorem ok_iwt {f : Addr} {fd : FuncData} (F : Fun K "is_whole_text" "is_whole_text" sIWT f fd) {fWT : Addr} (T : MgWt K mg fWT) : FnOk P w K mg base CX0 1 f fd ["token", "low", "high"] spIWT := by
  refine F.ok scIWT (fun vs H Q E h => ?_) (fun cdv A outer s H vs Q E hr h => ?_)
  · obtain ⟨x, lo, hi, rfl, _⟩ := h
    rfl
  · obtain ⟨z, lo, hi, rfl, hz, k⟩ := h
    obtain ⟨tD, eD⟩ := T.digt
    obtain ⟨tS, eS⟩ := T.mdi
    refine ⟨_, (pss_cons (ps_if (PW.pt (pw_or (pt_not (pt_chain op_le op_le pe_int (pe_callB call_len_str (by rfl) T.len PySem.boot_len (pa_cons (pv 0) pa_nil)) (pe_glob (v := .int 5) (by rfl) eS ⟨_, rfl⟩))) (pw_or1 (pt_not (pt_val (pe_callB (cr_all rfl) (by rfl) T.all (by decide +kernel) (pa_cons (pe_lc (own := [("sign", 3)]) (g := gName 3) (tt := tYes) (by rfl) scIWT.nd (pi_str (pv 0)) (blkOk_by (own := [("sign", 3)]) (N := ["token", "low", "high", "sign"]) (sc := defScope sIWT) (by decide +kernel)) (fun _ _ _ _ _ => (pg_name (i := 3) scIWT.nd rfl (Or.inl rfl))) (fun _ _ _ _ _ => pts_nil) (fun _ _ _ _ _ => (pe_cmpR op_in_sign (pv 3) (pe_glob (v := .str D10) (by rfl) eD ⟨_, rfl⟩) (by rfl)))) pa_nil))))))) (pss_one (ps_ret pe_bl)) pss_nil)
      (pss_cons (ps_if (PW.pt (pw_and (pt_cmpR op_eq (pe_ix ix_str (pv 0) pe_int (fun _ _ => rfl)) pe_str (nomark _)) (pw_and1 (pt_cmpR op_ne (pv 0) pe_str (nomark _))))) (pss_one (ps_ret pe_bl)) pss_nil)
      (pss_one (ps_ret (pe_chain op_le op_le (pv 1) (pe_callTy call_int_str (by rfl) T.int (by decide +kernel) (pa_cons (pv 0) pa_nil)) (pv 2)))))), ?_⟩
    have zs : z.length ≤ sizeLine := by rw [sizeLine_eq]; omega
    refine ⟨_, rfl, z, rfl, zs, _, _, rfl, rfl, _, rfl, ?_⟩
    have no : wholeB z lo hi = false → Q (.bl false) H := fun e => by
      have := k H (Same.refl H)
      rw [e] at this
      exact this
    by_cases h1 : 1 ≤ z.length
    rotate_left
    · refine ifF (decide_eq_false (by omega)) ?_
      refine ⟨_, rfl, ?_⟩
      refine iteT ?_
      refine no ?_
      unfold wholeB
      rw [decide_eq_false h1]
      rfl
    refine ifT (decide_eq_true (by omega)) ?_
    refine ⟨_, _, rfl, rfl, _, rfl, ?_⟩
    by_cases h2 : z.length ≤ 5
    rotate_left
    · rw [decide_eq_false (show ¬ (z.length : Int) ≤ 5 by omega)]
      refine iteT ?_
      refine no ?_
      unfold wholeB
      rw [decide_eq_false h2, Bool.false_and, Bool.and_false]
    rw [decide_eq_true (show (z.length : Int) ≤ 5 by omega)]
    refine iteF ?_
    -- all(..)
    refine ⟨_, rfl, z, rfl, fun D hD => lc_it walk_str (fun i H' => H' D = some (.lst (((tl z).take i).map (fun c => V.bl (isDig c)))) ∧ Same H H') ⟨upd_same, same_new hD⟩ (fun _ _ _ _ => True.intro) ?_ ?_⟩
    · rintro i x H1 H1' hi ⟨h4, s1⟩ ⟨rfl, c, hc, rfl⟩
      refine ⟨rfl, ?_⟩
      refine ⟨_, rfl, c, _, rfl, rfl, ?_⟩
      refine ⟨_, h4, ?_, ?_, ?_⟩
      · have := TL.len_tl z
        rw [List.length_map, List.length_take, sizeLine_eq]
        omega
      · rw [upd_same]
        have hc' : (tl z)[i]? = some c := by
          rw [← hc, ← Array.getElem?_toList]
        rw [List.take_succ, hc', List.map_append]
        rfl
      · intro b' o e
        rw [upd_ne (ne_of_none e hD)]
        exact s1 _ _ e
    · rintro H1 ⟨h4, s1⟩
      have e1 : (tl z).take z.cps.size = tl z := by
        have : (tl z).length = z.cps.size := Array.length_toList
        rw [← this, List.take_length]
      rw [e1] at h4
      refine ⟨D, (tl z).map isDig, rfl, SqL.of (by rw [List.map_map]; exact h4), _, rfl, ?_⟩
      rw [all_take]
      have k := k H1 s1
      unfold wholeB at k
      rw [decide_eq_true h1, decide_eq_true h2] at k
      cases h3 : (tl z).all isDig with
      | false =>
        rw [h3] at k
        refine iteT ?_
        exact k
      | true =>
        rw [h3] at k
        refine iteF ?_
        refine ⟨_, rfl, z, 0, _, rfl, rfl, zs, first_sign h1, rfl, _, rfl, ?_⟩
        have e48 : decide (V.str ⟨#[(tl z).getD 0 0]⟩ = V.str ("0" : Str)) = decide ((tl z).getD 0 0 = 48) := by
          rw [Bool.eq_iff_iff, decide_eq_true_iff, decide_eq_true_iff]
          exact one_eq _
        have l640 : z.length ≤ 640 := by omega
        rw [e48]
        by_cases c1 : (tl z).getD 0 0 = 48
        · refine ifT (decide_eq_true c1) ?_
          rw [decide_eq_true c1] at k
          refine ⟨_, rfl, rfl, _, rfl, ?_⟩
          rw [dec_str]
          by_cases c2 : z = ("0" : Str)
          · rw [decide_eq_true c2] at k ⊢
            refine ifF rfl ?_
            refine ⟨_, rfl, _, rfl, z, _, rfl, wv_text h1 h2 h3, l640, _, _, rfl, rfl, _, rfl, ?_⟩
            by_cases c3 : lo ≤ wv z
            · refine ifT (decide_eq_true c3) ?_
              rw [decide_eq_true c3] at k
              exact ⟨_, rfl, _, _, rfl, rfl, k⟩
            · refine ifF (decide_eq_false c3) ?_
              rw [decide_eq_false c3] at k
              exact k
          · rw [decide_eq_false c2] at k ⊢
            refine ifT rfl ?_
            exact k
        · refine ifF (decide_eq_false c1) ?_
          rw [decide_eq_false c1] at k
          refine iteF ?_
          refine ⟨_, rfl, _, rfl, z, _, rfl, wv_text h1 h2 h3, l640, _, _, rfl, rfl, _, rfl, ?_⟩
          by_cases c3 : lo ≤ wv z
          · refine ifT (decide_eq_true c3) ?_
            rw [decide_eq_true c3] at k
            exact ⟨_, rfl, _, _, rfl, rfl, k⟩
          · refine ifF (decide_eq_false c3) ?_
            rw [decide_eq_false c3] at k
            exact k
end
end K3

set_option Elab.async false
set_option linter.all false
set_option pp.maxSteps 700
set_option maxRecDepth 100000
set_option maxHeartbeats 4000000
namespace K3
open PySem PySem.Spec PyProof.Rows L2
open TL (tl)
abbrev sFre : Stmt := top 36
/-- a name that is free: any text will do -/
def spFre (K : PySem.W.Frag) : Sp := fun vs H Q _ => ∃ (r : Addr) (ns : List Str), vs = [.ref r] ∧ Sq K H r ns ∧ ns.length ≤ 60 ∧ ∀ (x : Str) (H' : Hp), Same H H' → Q (.str x) H'
def spTakeW (C E : Addr) : Sp := fun vs H Q Ex => ∃ (p L : Addr) (ts : List Tok) (i : Nat) (t : Tok) (lo hi : Int), vs = [.ref p, .int lo, .int hi] ∧ CurAt C H p L ts i ∧ ts[i]? = some t ∧ t.s.length ≤ 10000 ∧ lo.natAbs ≤ 100000 ∧
  (wholeB t.s lo hi = true → ∀ H', SameC p H H' → CurAt C H' p L ts (nx ts i) → Q (.int (wv t.s)) H') ∧ (wholeB t.s lo hi = false → ∀ (d : Addr) (H' : Hp), Same H H' → H' d = some (.xd (errF t)) → Ex (.ref E) (some d) H')
/-- take_name with nothing wished -/
def spTakeN (K : PySem.W.Frag) (C E : Addr) : Sp := fun vs H Q Ex => ∃ (p L : Addr) (ts : List Tok) (i : Nat) (t : Tok) (a r : Addr) (ns : List Str), vs = [.ref p, .ref a, .ref r, .bl true] ∧ CurAt C H p L ts i ∧ ts[i]? = some t ∧ t.s.length ≤ 10000 ∧ SqL K H a [] ∧ Sq K H r ns ∧ ns.length ≤ 60 ∧
  (nameS t.s = true → t.s ∉ ns → ∀ H', SameC p H H' → CurAt C H' p L ts (nx ts i) → Q (.str t.s) H') ∧ (¬ (nameS t.s = true ∧ t.s ∉ ns) → ∀ (d : Addr) (H' : Hp), Same H H' → H' d = some (.xd (errF t)) → Ex (.ref E) (some d) H')
def nNm (i : Nat) : Str := (Str.empty ++ ("n" : Str)) ++ Str.ofString (toString ((i : Nat) : Int))
theorem nNm_len : ∀ i : Fin 62, (nNm i.val).length ≤ 100 := by decide +kernel
theorem log_small {i : Int} (h : i.natAbs ≤ 100000) : i.natAbs.log2 < 1920 := by
  have : i.natAbs.log2 < 17 := by
    by_cases z : i.natAbs = 0
    · rw [z]; decide
    · rw [Nat.log2_lt z]; omega
  omega
theorem nNm_nd : ((List.range 62).map nNm).Nodup := by decide +kernel
theorem fre_stop {ns : List Str} {i : Nat} (hl : ns.length ≤ 60) (h : ∀ j < i, nNm j ∈ ns) : i ≤ ns.length := by
  rcases Nat.lt_or_ge ns.length i with h1 | h1
  · have sub : ((List.range (ns.length + 1)).map nNm).Nodup := by
      have e : List.range 62 = List.range (ns.length + 1) ++ (List.range (61 - ns.length)).map (fun x => ns.length + 1 + x) := by
        rw [← List.range_add]
        congr 1
        omega
      have := nNm_nd
      rw [e, List.map_append] at this
      exact (List.nodup_append.mp this).1
    have := pig _ ns sub fun x hx => by
      obtain ⟨j, hj, rfl⟩ := List.mem_map.mp hx
      exact h j (by have := List.mem_range.mp hj; omega)
    rw [List.length_map, List.length_range] at this
    omega
  · exact h1
section
variable {P : Program} {w : World} {K : PySem.W.Frag} {mg : Str → Option Value} {base : Heap}
variable {C CE E fI fB fT fK fF fW fN fN2 fX fWT fFr fNm : Addr} {fdI fdB fdT fdK fdF fdW fdX fdWT fdFr fdNm : FuncData}
theorem scFre : FnScope ["barred", "at"] ["barred"] (defScope sFre) := ⟨rfl, rfl, rfl, by decide +kernel, rfl, by decide +kernel, by decide +kernel⟩
theorem ok_fre {f : Addr} {fd : FuncData} (F : Fun K "fresh_name" "fresh_name" sFre f fd) : FnOk P w K mg base CX0 1 f fd ["barred"] (spFre K) := by
  refine F.ok scFre (fun vs H Q E h => ?_) (fun cdv A outer s H vs Q E hr h => ?_)
  · obtain ⟨r, ns, rfl, _⟩ := h
    rfl
  · obtain ⟨r, ns, rfl, hq, hl, k⟩ := h
    refine ⟨_, (pss_cons (ps_set (i := 1) scFre.nd rfl (Or.inl rfl) pe_int)
      (pss_cons (ps_while PassesOwn.never (pt_cmpR op_in_seq (pe_joined (.cons pe_str (.cons (pe_fmt (pv 1)) .nil))) (pv 0) (by rfl))
          (pss_one (ps_aug (i := 1) scFre.nd rfl (Or.inl rfl) pe_int ip_add)))
      (pss_one (ps_ret (pe_joined (.cons pe_str (.cons (pe_fmt (pv 1)) .nil))))))), ?_⟩
    refine while_m (fun m σ H' => ∃ i : Nat, σ = [some (.ref r), some (.int (i : Nat))] ∧ H' = H ∧ m = ns.length + 1 - i ∧ ∀ j < i, nNm j ∈ ns) (ns.length + 1) ⟨0, rfl, rfl, rfl, fun j hj => absurd hj (Nat.not_lt_zero _)⟩ ?_
    rintro m σ H' ⟨i, rfl, rfl, rfl, hi⟩
    have hs := fre_stop hl hi
    have il : (((i : Nat) : Int)).natAbs.log2 < 1920 := log_small (by omega)
    have l1 : (Str.empty ++ ("n" : Str)).length ≤ sizeLine := by decide +kernel
    have l2 : (nNm i).length ≤ sizeLine := Nat.le_trans (nNm_len ⟨i, by omega⟩) (by decide)
    refine ⟨_, rfl, l1, _, rfl, .inr ⟨_, rfl, il, _, rfl, l2, ?_⟩⟩
    refine ⟨_, rfl, r, _, rfl, hq, rfl, flat_strs _, ?_⟩
    rw [show (if false = true then !inV (V.str ((Str.empty ++ ("n" : Str)) ++ Str.ofString (toString ((i : Nat) : Int)))) (ns.map V.str) else inV (V.str ((Str.empty ++ ("n" : Str)) ++ Str.ofString (toString ((i : Nat) : Int)))) (ns.map V.str)) = decide (nNm i ∈ ns) from inV_str]
    refine ⟨_, rfl, ?_⟩
    by_cases c : nNm i ∈ ns
    · refine ifT (decide_eq_true c) ?_
      have hi2 : ∀ j < i + 1, nNm j ∈ ns := fun j hj => by
        rcases Nat.lt_or_ge j i with h | h
        · exact hi j h
        · obtain rfl : j = i := by omega
          exact c
      have hs2 := fre_stop hl hi2
      refine ⟨_, fun _ _ h => h, ?_⟩
      refine ⟨_, rfl, _, _, rfl, rfl, _, ?_, i + 1, rfl, rfl, rfl, hi2⟩
      omega
    · refine ifF (decide_eq_false c) ?_
      refine ⟨_, rfl, l1, _, rfl, .inr ⟨_, rfl, il, _, rfl, l2, ?_⟩⟩
      exact k _ _ (Same.refl _)
variable (T : MgCu K mg C CE E fI fB fT fK fF fW fN fN2 fX) (GX : FnOk P w K mg base (L2.CX P w) 3 fX fdX ["self", "is_right", "instead"] (spTakeI C E)) (bX : L2.Binds K fdX ["self", "is_right", "instead"] [])
theorem scTakeW : FnScope ["self", "low", "high", "is_right"] ["self", "low", "high"] (defScope sTakeW) := ⟨rfl, rfl, rfl, by decide +kernel, rfl, by decide +kernel, by decide +kernel⟩
theorem scTakeN : FnScope ["self", "wished", "barred", "is_free", "is_right"] ["self", "wished", "barred", "is_free"] (defScope sTakeN) := ⟨rfl, rfl, rfl, by decide +kernel, rfl, by decide +kernel, by decide +kernel⟩
include T GX bX
theorem ok_TakeW {fd : FuncData} (F : Fun K "take_whole" "Cursor.take_whole" sTakeW fW fd) (TW : MgWt K mg fWT) (GW : FnOk P w K mg base CX0 1 fWT fdWT ["token", "low", "high"] spIWT) (bW : L2.Binds K fdWT ["token", "low", "high"] []) : FnOk P w K mg base (L2.CX P w) 4 fW fd ["self", "low", "high"] (spTakeW C E) := by
  refine F.okX scTakeW (fun vs H Q E h => ?_) (fun cdv A outer s H vs Q Ex hr h => ?_)
  · obtain ⟨p, L, ts, i, t, lo, hi, rfl, _⟩ := h
    rfl
  · obtain ⟨p, L, ts, i, t, lo, hi, rfl, S, ht, hz, hlo, k1, k2⟩ := h
    have hr1 : Room 1 _ := hr.mono (by omega)
    refine ⟨_, (pss_cons (ps_set (i := 3) scTakeW.nd rfl (Or.inl rfl) (pe_and (pe_not (pe_fld (pv 0) rfl)) (pe_one (pe_call GW hr1 (by rfl) TW.wt TW.kwt bW .nil pass0 (pa_cons (pe_ix ix_tup (pe_ix ix_list (pe_fld (pv 0) rfl) (pe_fld (pv 0) rfl) (fun _ _ => rfl)) pe_int (fun _ _ => rfl)) (pa_cons (pv 1) (pa_cons (pv 2) pa_nil)))))))
      (pss_one (ps_ret (pe_callTy call_int_str (by rfl) T.int (by decide +kernel) (pa_cons (pe_meth (pv 0) T.cl T.mTI GX hr bX .nil (passes_call (takes_of rfl rfl rfl rfl) (fun _ _ _ _ h => h)) (pa_cons (pv 3) (pa_cons (pe_callTy call_str_int (by rfl) T.str (by decide +kernel) (pa_cons (pv 1) pa_nil)) pa_nil))) pa_nil))))), ?_⟩
    obtain ⟨dx, xs, bt, t', hp, hL, ht', hl, hat, hb, hxs⟩ := S.at_
    obtain rfl : t = t' := Option.some.inj (ht.symm.trans ht')
    have hi' := S.lt
    refine ⟨_, rfl, p, C, dx, _, _, rfl, hp, T.cl, T.nO, cf_ov _ _, false, rfl, true, rfl, ?_⟩
    refine iteT ?_
    refine ⟨_, rfl, p, C, dx, _, _, rfl, hp, T.cl, T.nT, cf_tok _ _, _, rfl, p, C, dx, _, _, rfl, hp, T.cl, T.nA, cf_at _ _, L, xs, _, _, rfl, rfl, SqL.of hL, hat, ?_⟩
    refine ⟨bt, _, 3, _, rfl, rfl, .inl (.inl hb), atI_nat (xs := t.vs) (j := 3) rfl, ?_⟩
    refine ⟨_, rfl, _, rfl, t.s, lo, hi, rfl, (by omega), fun H1 s1 => ?_⟩
    have S1 := S.keep s1
    refine ⟨_, rfl, p, dx, _, rfl, s1 _ _ hp, cf_no _ _ (by decide +kernel), ?_⟩
    refine ⟨_, rfl, _, rfl, lo, rfl, log_small hlo, ?_⟩
    refine ⟨p, L, ts, i, _, _, t, rfl, S1, ht, fun e H' s2 c2 => ?_, fun e d H' s2 h2 => k2 e d H' (s1.trans s2) h2⟩
    have e0 := e
    unfold wholeB at e0
    simp only [Bool.and_eq_true, decide_eq_true_iff] at e0
    exact ⟨_, _, rfl, wv_text e0.1 e0.2.1 e0.2.2.1, by omega, k1 e H' ((SameC.of s1).trans s2) c2⟩
theorem ok_TakeN {fd : FuncData} (F : Fun K "take_name" "Cursor.take_name" sTakeN fN fd) (mNm : mg "is_name" = some (.ref fNm)) (kNm : PySem.W.keepIn K (.ref fNm) = true) (GNm : FnOk P w K mg base CX0 1 fNm fdNm ["value"] (spAsk nameB)) (bNm : L2.Binds K fdNm ["value"] [])
    (mFr : mg "fresh_name" = some (.ref fFr)) (kFr : PySem.W.keepIn K (.ref fFr) = true) (GFr : FnOk P w K mg base CX0 1 fFr fdFr ["barred"] (spFre K)) (bFr : L2.Binds K fdFr ["barred"] []) : FnOk P w K mg base (L2.CX P w) 4 fN fd ["self", "wished", "barred", "is_free"] (spTakeN K C E) := by
  refine F.okX scTakeN (fun vs H Q E h => ?_) (fun cdv A outer s H vs Q Ex hr h => ?_)
  · obtain ⟨p, L, ts, i, t, a, r, ns, rfl, _⟩ := h
    rfl
  · obtain ⟨p, L, ts, i, t, a, r, ns, rfl, S, ht, hz, ha, hq, hn, k1, k2⟩ := h
    have hr1 : Room 1 _ := hr.mono (by omega)
    refine ⟨_, (pss_cons (ps_set (i := 4) scTakeN.nd rfl (Or.inl rfl) (pe_and (pe_not (pe_fld (pv 0) rfl)) (pe_one (pe_cmpR op_in_seq (pe_ix ix_tup (pe_ix ix_list (pe_fld (pv 0) rfl) (pe_fld (pv 0) rfl) (fun _ _ => rfl)) pe_int (fun _ _ => rfl)) (pv 1) (by rfl)))))
      (pss_mid (ps_if (PW.pt (pw_and (pt_not (pt_val (pe_fld (pv 0) rfl))) (pw_and (pt_val (pv 3)) (pw_and1 (pt_not (pt_val (pv 4))))))) (pss_one (ps_set (i := 4) scTakeN.nd rfl (Or.inl rfl) (pe_and (pe_call GNm hr1 (by rfl) mNm kNm bNm .nil pass0 (pa_cons (pe_ix ix_tup (pe_ix ix_list (pe_fld (pv 0) rfl) (pe_fld (pv 0) rfl) (fun _ _ => rfl)) pe_int (fun _ _ => rfl)) pa_nil)) (pe_one (pe_cmpR op_notIn_seq (pe_ix ix_tup (pe_ix ix_list (pe_fld (pv 0) rfl) (pe_fld (pv 0) rfl) (fun _ _ => rfl)) pe_int (fun _ _ => rfl)) (pv 2) (by rfl)))))) pss_nil)
      (pss_one (ps_ret (pe_meth (pv 0) T.cl T.mTI GX hr bX .nil (passes_call (takes_of rfl rfl rfl rfl) (fun _ _ _ _ h => h)) (pa_cons (pv 4) (pa_cons (pe_ifExp (pt_truth (pv 1) (fun _ => rfl)) (pe_ix ix_list (pv 1) pe_int (fun _ _ => rfl)) (pe_call GFr hr1 (by rfl) mFr kFr bFr .nil pass0 (pa_cons (pv 2) pa_nil))) pa_nil))))))), ?_⟩
    obtain ⟨dx, xs, bt, t', hp, hL, ht', hl, hat, hb, hxs⟩ := S.at_
    obtain rfl : t = t' := Option.some.inj (ht.symm.trans ht')
    have hi' := S.lt
    refine ⟨_, rfl, p, C, dx, _, _, rfl, hp, T.cl, T.nO, cf_ov _ _, false, rfl, true, rfl, ?_⟩
    refine iteT ?_
    refine ⟨_, rfl, p, C, dx, _, _, rfl, hp, T.cl, T.nT, cf_tok _ _, _, rfl, p, C, dx, _, _, rfl, hp, T.cl, T.nA, cf_at _ _, L, xs, _, _, rfl, rfl, SqL.of hL, hat, ?_⟩
    refine ⟨bt, _, 3, _, rfl, rfl, .inl (.inl hb), atI_nat (xs := t.vs) (j := 3) rfl, ?_⟩
    refine ⟨_, rfl, a, [], rfl, .inl ha, rfl, rfl, ?_⟩
    refine ⟨fun σ H1 => Same H H1 ∧ σ = [some (.ref p), some (.ref a), some (.ref r), some (.bl true), some (.bl (nameS t.s && !decide (t.s ∈ ns)))], ?_, ?_⟩
    · refine ⟨_, rfl, p, C, dx, _, _, rfl, hp, T.cl, T.nO, cf_ov _ _, false, rfl, ?_⟩
      refine iteT ?_
      refine ⟨_, rfl, true, rfl, ?_⟩
      refine iteT ?_
      refine ⟨_, rfl, false, rfl, ?_⟩
      refine iteT ?_
      refine ⟨_, rfl, p, C, dx, _, _, rfl, hp, T.cl, T.nT, cf_tok _ _, _, rfl, p, C, dx, _, _, rfl, hp, T.cl, T.nA, cf_at _ _, L, xs, _, _, rfl, rfl, SqL.of hL, hat, ?_⟩
      refine ⟨bt, _, 3, _, rfl, rfl, .inl (.inl hb), atI_nat (xs := t.vs) (j := 3) rfl, ?_⟩
      refine ⟨p, _, .str t.s, rfl, .str hz, fun H1 s1 => ?_⟩
      refine ⟨_, rfl, ?_⟩
      cases hnm : nameS t.s with
      | false =>
        rw [show nameB (.str t.s) = false from hnm]
        refine iteF ?_
        exact ⟨s1, rfl⟩
      | true =>
        rw [show nameB (.str t.s) = true from hnm]
        refine iteT ?_
        refine ⟨_, rfl, p, C, dx, _, _, rfl, s1 _ _ hp, T.cl, T.nT, cf_tok _ _, _, rfl, p, C, dx, _, _, rfl, s1 _ _ hp, T.cl, T.nA, cf_at _ _, L, xs, _, _, rfl, rfl, SqL.of (s1 _ _ hL), hat, ?_⟩
        refine ⟨bt, _, 3, _, rfl, rfl, .inl (.inl (s1 _ _ hb)), atI_nat (xs := t.vs) (j := 3) rfl, ?_⟩
        refine ⟨_, rfl, r, _, rfl, hq.keep s1, rfl, flat_strs _, ?_⟩
        rw [show (if true = true then !inV (V.str t.s) (ns.map V.str) else inV (V.str t.s) (ns.map V.str)) = !decide (t.s ∈ ns) from congrArg (!·) inV_str]
        exact ⟨s1, rfl⟩
    · rintro σ H1 ⟨s1, rfl⟩
      have S1 := S.keep s1
      refine ⟨_, rfl, p, dx, _, rfl, s1 _ _ hp, cf_no _ _ (by decide +kernel), ?_⟩
      refine ⟨_, rfl, _, rfl, false, .inl ⟨[], s1.seq ha, rfl⟩, ?_⟩
      refine iteF ?_
      refine ⟨_, rfl, r, ns, rfl, hq.keep s1, hn, fun x H2 s2 => ?_⟩
      have s12 := s1.trans s2
      refine ⟨p, L, ts, i, _, _, t, rfl, S1.keep s2, ht, fun e H' s3 c3 => ?_, fun e d H' s3 h3 => ?_⟩
      · rw [Bool.and_eq_true, Bool.not_eq_true', decide_eq_false_iff_not] at e
        exact k1 e.1 e.2 H' ((SameC.of s12).trans s3) c3
      · refine k2 (fun z => ?_) d H' (s12.trans s3) h3
        rw [z.1, decide_eq_false z.2] at e
        cases e
end
end K3

set_option Elab.async false
set_option linter.all false
set_option pp.maxSteps 700
set_option maxRecDepth 100000
set_option maxHeartbeats 4000000
namespace K3
open PySem PySem.Spec PyProof.Rows L2
open TL (tl)
/-! ### a kind read from tokens -/
inductive Par where
  | ok (d : Dt) (j : Nat)
  | bad (i : Nat)
def tokS (ts : List Tok) (i : Nat) : Str := match ts[i]? with
  | some t => t.s
  | none => etS
theorem tokS_of {ts : List Tok} {i : Nat} {t : Tok} (h : ts[i]? = some t) : tokS ts i = t.s := by
  unfold tokS
  rw [h]
def pairD (f : Str × Dt) : Dt := .tup [.str f.1, f.2]
def rdF (ts : List Tok) (n : Nat) (rk : Int → Nat → Par) : Nat → Int → Nat → List (Str × Dt) → Par
  | 0, _, i, _ => .bad i
  | k + 1, room, i, fs =>
    if nameS (tokS ts i) = true ∧ tokS ts i ∉ fs.map (·.1) then
      match rk room (nx ts i) with
      | .bad e => .bad e
      | .ok d j =>
        if tokS ts j = (")" : Str) then .ok (.tup ((fs ++ [(tokS ts i, d)]).map pairD)) (nx ts j)
        else if tokS ts j = ("," : Str) ∧ fs.length + 1 < 6 ∧ 0 < room - wordsN n d then rdF ts n rk k (room - wordsN n d) (nx ts j) (fs ++ [(tokS ts i, d)])
        else .bad j
    else .bad i
def rdK (ts : List Tok) : Nat → Int → Nat → Par
  | 0, _, i => if plainS (tokS ts i) = true then .ok (.str (tokS ts i)) (nx ts i) else .bad i
  | n + 1, room, i =>
    if plainS (tokS ts i) = true then .ok (.str (tokS ts i)) (nx ts i)
    else if n = 0 then .bad i
    else if tokS ts i = ("row" : Str) then
      if wholeB (tokS ts (nx ts i)) 1 (min 64 room) = true then
        match rdK ts n (room.fdiv (wv (tokS ts (nx ts i)))) (nx ts (nx ts i)) with
        | .ok d j => .ok (.tup [.str "row", .int (wv (tokS ts (nx ts i))), d]) j
        | .bad e => .bad e
      else .bad (nx ts i)
    else if tokS ts i = ("record" : Str) then
      if tokS ts (nx ts i) = ("(" : Str) then
        match rdF ts n (rdK ts n) 6 room (nx ts (nx ts i)) [] with
        | .ok d j => .ok (.tup [.str "record", d]) j
        | .bad e => .bad e
      else .bad (nx ts i)
    else .bad i
/-- what is read is a kind, of at most so many words -/
structure GoodK (n : Nat) (room : Int) (d : Dt) : Prop where
  fm : formed n d = true
  pr : pur d = true
  w1 : 1 ≤ wordsN n d
  w2 : wordsN n d ≤ room
structure GoodFs (n : Nat) (room : Int) (fs : List (Str × Dt)) : Prop where
  nm : ∀ f ∈ fs, nameS f.1 = true ∧ formed n f.2 = true ∧ pur f.2 = true
  nd : (fs.map (·.1)).Nodup
  ln : fs.length ≤ 6
  ws : (fs.map (fun f => wordsN n f.2)).sum ≤ room
theorem wholeB_iff {x : Str} {lo hi : Int} (h : wholeB x lo hi = true) : lo ≤ wv x ∧ wv x ≤ hi := by
  unfold wholeB at h
  simp only [Bool.and_eq_true, decide_eq_true_iff] at h
  exact ⟨h.2.2.2.2.1, h.2.2.2.2.2⟩
theorem plain_pur {s : Str} (h : plainS s = true) : PyData.strOk s = true := by
  unfold plainS at h
  rw [Bool.or_eq_true, beq_iff_eq, beq_iff_eq] at h
  rcases h with rfl | rfl <;> decide +kernel
theorem rdF_good {ts : List Tok} {n : Nat} {rk : Int → Nat → Par} (hk : ∀ room i d j, 1 ≤ room → rk room i = .ok d j → GoodK n room d) {total : Int} : ∀ (k : Nat) (room : Int) (i : Nat) (fs : List (Str × Dt)) (d : Dt) (j : Nat), 1 ≤ room → fs.length + k ≤ 6 →
    GoodFs n (total - room) fs → rdF ts n rk k room i fs = .ok d j → ∃ fs', d = .tup (fs'.map pairD) ∧ GoodFs n total fs' ∧ 1 ≤ fs'.length
  | 0, room, i, fs, d, j, _, _, _, h => by
    unfold rdF at h
    cases h
  | k + 1, room, i, fs, d, j, hr, hl, g, h => by
    unfold rdF at h
    split at h
    · rename_i hn
      split at h
      · cases h
      · rename_i d1 j1 e1
        have g1 := hk room _ d1 j1 hr e1
        have gs : GoodFs n (total - (room - wordsN n d1)) (fs ++ [(tokS ts i, d1)]) := by
          refine ⟨fun f hf => ?_, ?_, ?_, ?_⟩
          · rcases List.mem_append.mp hf with hf | hf
            · exact g.nm f hf
            · rw [List.mem_singleton.mp hf]
              exact ⟨hn.1, g1.fm, g1.pr⟩
          · rw [List.map_append, List.nodup_append]
            refine ⟨g.nd, by simp, ?_⟩
            intro a ha b hb e
            rw [List.map_cons, List.map_nil, List.mem_singleton] at hb
            rw [e, hb] at ha
            exact hn.2 ha
          · rw [List.length_append, List.length_singleton]
            omega
          · rw [List.map_append, List.sum_append]
            have := g.ws
            have e : ([(tokS ts i, d1)].map (fun f => wordsN n f.2)).sum = wordsN n d1 := by simp
            rw [e]
            omega
        split at h
        · injection h with h1 h2
          refine ⟨_, h1.symm, ⟨gs.nm, gs.nd, gs.ln, ?_⟩, by rw [List.length_append]; simp⟩
          have := gs.ws
          have := g1.w2
          omega
        · split at h
          · rename_i hc
            exact rdF_good hk k _ _ _ d j (by omega) (by rw [List.length_append, List.length_singleton]; omega) gs h
          · cases h
    · cases h
theorem sumW_pairs (n : Nat) (fs : List (Str × Dt)) : sumW (wordsN n) (.tup (fs.map pairD)) = (fs.map (fun f => wordsN n f.2)).sum := by
  show ((fs.map pairD).map (sndW (wordsN n))).sum = _
  rw [List.map_map]
  rfl
theorem purs_pairs {fs : List (Str × Dt)} (h : ∀ f ∈ fs, nameS f.1 = true ∧ pur f.2 = true) : purs (fs.map pairD) = true := by
  rw [purs_all, List.all_eq_true]
  intro d hd
  obtain ⟨f, hf, rfl⟩ := List.mem_map.mp hd
  obtain ⟨a, b⟩ := h f hf
  show (PyData.strOk f.1 && (pur f.2 && true)) = true
  rw [(name_parts a).2.2, b]
  rfl
theorem fs_formed {n : Nat} {room : Int} {fs : List (Str × Dt)} (g : GoodFs (n + 1) room fs) (h1 : 1 ≤ fs.length) : GoodK (n + 2) room (.tup [.str "record", .tup (fs.map pairD)]) := by
  have w1 : (fs.length : Int) ≤ (fs.map (fun f => wordsN (n + 1) f.2)).sum := by
    have := (sum_le (f := fun d => sndW (wordsN (n + 1)) d) (B := 64 ^ (n + 1)) (fs.map pairD) fun x hx => ?_).1
    · rw [List.length_map, List.map_map] at this
      exact this
    · obtain ⟨f, hf, rfl⟩ := List.mem_map.mp hx
      exact words_bound (n + 1) f.2 (g.nm f hf).2.1
  refine ⟨?_, ?_, ?_, ?_⟩
  · rw [formed_two]
    show (true && ((decide (1 ≤ ((fs.map pairD).length : Int)) && decide (((fs.map pairD).length : Int) ≤ 6)) && ((fs.map pairD).all (pairF (formed (n + 1))) && decide ((fs.map pairD).map nmOf).Nodup))) = true
    have hl := g.ln
    have hn : (fs.map pairD).map nmOf = fs.map (·.1) := by
      rw [List.map_map]
      rfl
    rw [List.length_map, hn, decide_eq_true (show 1 ≤ (fs.length : Int) by omega), decide_eq_true (show (fs.length : Int) ≤ 6 by omega), decide_eq_true g.nd, List.all_eq_true.mpr fun p hp => ?_]
    · rfl
    · obtain ⟨f, hf, rfl⟩ := List.mem_map.mp hp
      obtain ⟨a, b, _⟩ := g.nm f hf
      show (nameS f.1 && formed (n + 1) f.2) = true
      rw [a, b]
      rfl
  · show (PyData.strOk "record" && (purs (fs.map pairD) && true)) = true
    rw [purs_pairs fun f hf => ⟨(g.nm f hf).1, (g.nm f hf).2.2⟩]
    decide +kernel
  · rw [words_two]
    show 1 ≤ sumW (wordsN (n + 1)) (.tup (fs.map pairD))
    rw [sumW_pairs]
    omega
  · rw [words_two]
    show sumW (wordsN (n + 1)) (.tup (fs.map pairD)) ≤ room
    rw [sumW_pairs]
    exact g.ws
theorem rdK_good (ts : List Tok) : ∀ (n : Nat) (room : Int) (i : Nat) (d : Dt) (j : Nat), 1 ≤ room → rdK ts n room i = .ok d j → GoodK n room d
  | 0, room, i, d, j, hr, h => by
    unfold rdK at h
    split at h
    · rename_i hp
      injection h with h1 h2
      subst h1
      exact ⟨by rw [formed_str]; exact hp, plain_pur hp, by rw [words_str]; exact Int.le_refl _, by rw [words_str]; exact hr⟩
    · cases h
  | n + 1, room, i, d, j, hr, h => by
    unfold rdK at h
    split at h
    · rename_i hp
      injection h with h1 h2
      subst h1
      exact ⟨by rw [formed_str]; exact hp, plain_pur hp, by rw [words_str]; exact Int.le_refl _, by rw [words_str]; exact hr⟩
    · split at h
      · cases h
      · rename_i hn
        obtain ⟨m, rfl⟩ : ∃ m, n = m + 1 := ⟨n - 1, by omega⟩
        split at h
        · split at h
          · rename_i hw
            obtain ⟨a, b⟩ := wholeB_iff hw
            generalize wv (tokS ts (nx ts i)) = v at *
            have hv : v ≤ room := by omega
            have q1 : 1 ≤ room.fdiv v := by
              rw [Int.fdiv_eq_ediv_of_nonneg _ (by omega)]
              exact (Int.le_ediv_iff_mul_le (by omega)).mpr (by omega)
            split at h
            · rename_i d1 j1 e1
              injection h with h1 h2
              subst h1
              have g := rdK_good ts (m + 1) _ _ d1 j1 q1 e1
              have g2 := g.w2
              have g1 := g.w1
              rw [Int.fdiv_eq_ediv_of_nonneg _ (by omega), Int.le_ediv_iff_mul_le (by omega)] at g2
              refine ⟨?_, ?_, ?_, ?_⟩
              · rw [formed_two]
                show (true && ((decide (1 ≤ v) && decide (v ≤ 64)) && formed (m + 1) d1)) = true
                rw [decide_eq_true a, decide_eq_true (show v ≤ 64 by omega), g.fm]
                rfl
              · show (PyData.strOk "row" && (true && (pur d1 && true))) = true
                rw [g.pr]
                decide +kernel
              · rw [words_two]
                show 1 ≤ v * wordsN (m + 1) d1
                have := Int.mul_le_mul a g1 (by omega) (by omega)
                omega
              · rw [words_two]
                show v * wordsN (m + 1) d1 ≤ room
                rw [Int.mul_comm]
                exact g2
            · cases h
          · cases h
        · split at h
          · split at h
            · split at h
              · rename_i d1 j1 e1
                injection h with h1 h2
                subst h1
                obtain ⟨fs', rfl, g, l1⟩ := rdF_good (total := room) (fun room i d j => rdK_good ts (m + 1) room i d j) 6 room _ [] d1 j1 hr (by simp) ⟨(fun f hf => by cases hf), List.nodup_nil, Nat.zero_le _, by simp⟩ e1
                exact fs_formed g l1
              · cases h
            · cases h
          · cases h
end K3

set_option Elab.async false
set_option linter.all false
set_option pp.maxSteps 700
set_option maxRecDepth 100000
set_option maxHeartbeats 4000000
namespace K3
open PySem PySem.Spec PyProof.Rows L2
open TL (tl)
abbrev sRKd : Stmt := top 43
abbrev sRFs : Stmt := top 44
theorem SameC.kt {C p : Addr} {H H' : Hp} {dx : Addr} {fs : List (Str × V)} (h : H p = some (.ins C dx fs)) (s : SameC p H H') : Kt H H' := fun b xs e => s _ _ e (fun z => by
  rw [z, h] at e
  cases e)
theorem CurAt.kt {C : Addr} {H H' : Hp} {p L : Addr} {ts : List Tok} {i : Nat} (S : CurAt C H p L ts i) (s : SameC p H H') : Kt H H' := by
  obtain ⟨⟨dx, e⟩, _⟩ := S
  exact SameC.kt e s
theorem CurAt.ne {C : Addr} {H : Hp} {p L : Addr} {ts : List Tok} {i : Nat} (S : CurAt C H p L ts i) {b : Addr} {o : HO} (e : H b = some o) (ho : ∀ C dx fs, o ≠ .ins C dx fs) : b ≠ p := fun z => by
  obtain ⟨⟨dx, e'⟩, _⟩ := S
  rw [z, e'] at e
  exact ho _ _ _ (Option.some.inj e).symm
theorem CurAt.tok {C : Addr} {H : Hp} {p L : Addr} {ts : List Tok} {i : Nat} (S : CurAt C H p L ts i) : ∃ t, ts[i]? = some t ∧ tokS ts i = t.s :=
  ⟨ts[i]'S.lt, List.getElem?_eq_getElem S.lt, tokS_of (List.getElem?_eq_getElem S.lt)⟩
/-- what a def of the reader tells: it reads, or the token at e is wrong -/
def RdQ (C E p L : Addr) (ts : List Tok) (o : Par) (H : Hp) (Q : VK) (Ex : XK) : Prop :=
  (∀ d j, o = .ok d j → ∀ v H', SameC p H H' → CurAt C H' p L ts j → DV p H' v d → Q v H') ∧
  (∀ e, o = .bad e → ∀ t, ts[e]? = some t → ∀ dd H', SameC p H H' → H' dd = some (.xd (errF t)) → Ex (.ref E) (some dd) H')
def lens (ts : List Tok) : Prop := ∀ t ∈ ts, t.s.length ≤ 10000
def spRK (C E : Addr) (n : Nat) : Sp := fun vs H Q Ex => 1 ≤ n ∧ ∃ (p L : Addr) (ts : List Tok) (i : Nat) (room : Int), vs = [.ref p, .int room, .int (n : Nat)] ∧ CurAt C H p L ts i ∧ lens ts ∧ 1 ≤ room ∧ room ≤ 400 ∧ RdQ C E p L ts (rdK ts n room i) H Q Ex
def rdFF (ts : List Tok) (n : Nat) (room : Int) (i : Nat) : Par := if tokS ts i = ("(" : Str) then rdF ts n (rdK ts n) 6 room (nx ts i) [] else .bad i
theorem rdK_row {ts : List Tok} {n : Nat} {room : Int} {i : Nat} (hp : plainS (tokS ts i) = false) (hn : n ≠ 0) (cr : tokS ts i = ("row" : Str)) (hw : wholeB (tokS ts (nx ts i)) 1 (min 64 room) = true) :
    (∀ d j, rdK ts n (room.fdiv (wv (tokS ts (nx ts i)))) (nx ts (nx ts i)) = .ok d j → rdK ts (n + 1) room i = .ok (.tup [.str "row", .int (wv (tokS ts (nx ts i))), d]) j) ∧
    (∀ e, rdK ts n (room.fdiv (wv (tokS ts (nx ts i)))) (nx ts (nx ts i)) = .bad e → rdK ts (n + 1) room i = .bad e) := by
  refine ⟨fun d j h => ?_, fun e h => ?_⟩ <;>
  · conv => lhs; unfold rdK
    rw [if_neg (by rw [hp]; exact Bool.false_ne_true), if_neg hn, if_pos cr, if_pos hw, h]
theorem rdK_row0 {ts : List Tok} {n : Nat} {room : Int} {i : Nat} (hp : plainS (tokS ts i) = false) (hn : n ≠ 0) (cr : tokS ts i = ("row" : Str)) (hw : wholeB (tokS ts (nx ts i)) 1 (min 64 room) = false) : rdK ts (n + 1) room i = .bad (nx ts i) := by
  conv => lhs; unfold rdK
  rw [if_neg (by rw [hp]; exact Bool.false_ne_true), if_neg hn, if_pos cr, if_neg (by rw [hw]; exact Bool.false_ne_true)]
theorem rdK_rec {ts : List Tok} {n : Nat} {room : Int} {i : Nat} (hp : plainS (tokS ts i) = false) (hn : n ≠ 0) (cr : tokS ts i = ("record" : Str)) :
    (∀ d j, rdFF ts n room (nx ts i) = .ok d j → rdK ts (n + 1) room i = .ok (.tup [.str "record", d]) j) ∧
    (∀ e, rdFF ts n room (nx ts i) = .bad e → rdK ts (n + 1) room i = .bad e) := by
  have nr : tokS ts i ≠ ("row" : Str) := by rw [cr]; decide +kernel
  unfold rdFF
  refine ⟨fun d j h => ?_, fun e h => ?_⟩ <;>
  · conv => lhs; unfold rdK
    rw [if_neg (by rw [hp]; exact Bool.false_ne_true), if_neg hn, if_neg nr, if_pos cr]
    split at h
    · rename_i h1
      rw [if_pos h1, h]
    · rename_i h1
      rw [if_neg h1]
      first
        | cases h; done
        | (injection h with h; rw [h])
def spRF (C E : Addr) (n : Nat) : Sp := fun vs H Q Ex => 1 ≤ n ∧ ∃ (p L : Addr) (ts : List Tok) (i : Nat) (room : Int), vs = [.ref p, .int room, .int (n : Nat)] ∧ CurAt C H p L ts i ∧ lens ts ∧ 1 ≤ room ∧ room ≤ 400 ∧ n ≤ 4 ∧ RdQ C E p L ts (rdFF ts n room i) H Q Ex
structure MgRd (K : PySem.W.Frag) (mg : Str → Option Value) (C fW fN fRK fRF fWc : Addr) : Prop where
  pl : ∃ a, mg "PLAIN" = some (.ref a) ∧ ∀ H, SqT K H a ((["number", "truth"] : List Str).map V.str)
  mit : ∃ t, mg "MOST_ITEMS" = some (.int 64 t)
  mfi : ∃ t, mg "MOST_FIELDS" = some (.int 6 t)
  rk : mg "_read_kind" = some (.ref fRK)
  krk : PySem.W.keepIn K (.ref fRK) = true
  rf : mg "_read_fields" = some (.ref fRF)
  krf : PySem.W.keepIn K (.ref fRF) = true
  wc : mg "word_count" = some (.ref fWc)
  kwc : PySem.W.keepIn K (.ref fWc) = true
  mTW : Meth K C "take_whole" fW
  mTN : Meth K C "take_name" fN
  tpl : mg "tuple" = none
section
variable {P : Program} {w : World} {K : PySem.W.Frag} {mg : Str → Option Value} {base : Heap}
variable {C CE E fI fB fT fK fF fW fN fN2 fX fRK fRF fWc : Addr} {fdK fdW fdN fdRK fdRF fdWc : FuncData}
theorem scRK : FnScope ["cursor", "room", "deep", "word", "many"] ["cursor", "room", "deep"] (defScope sRKd) := ⟨rfl, rfl, rfl, by decide +kernel, rfl, by decide +kernel, by decide +kernel⟩
theorem scRF : FnScope ["cursor", "room", "deep", "fields", "names", "sign", "name", "kind"] ["cursor", "room", "deep"] (defScope sRFs) := ⟨rfl, rfl, rfl, by decide +kernel, rfl, by decide +kernel, by decide +kernel⟩
variable (T : MgCu K mg C CE E fI fB fT fK fF fW fN fN2 fX) (R : MgRd K mg C fW fN fRK fRF fWc)
variable (GK : FnOk P w K mg base (L2.CX P w) 4 fK fdK ["self", "rights"] (spTake K C E)) (bK : L2.Binds K fdK ["self", "rights"] [])
variable (GW : FnOk P w K mg base (L2.CX P w) 4 fW fdW ["self", "low", "high"] (spTakeW C E)) (bW : L2.Binds K fdW ["self", "low", "high"] [])
variable (GN : FnOk P w K mg base (L2.CX P w) 4 fN fdN ["self", "wished", "barred", "is_free"] (spTakeN K C E)) (bN : L2.Binds K fdN ["self", "wished", "barred", "is_free"] [])
variable (GC : FnOk P w K mg base CX0 5 fWc fdWc ["kind"] (fun vs H Q E => ∃ n, n ≤ 4 ∧ spWc n vs H Q E)) (bC : L2.Binds K fdWc ["kind"] [])
include T R GK bK GW bW
theorem rk_step (F : Fun K "_read_kind" "_read_kind" sRKd fRK fdRK) (bRK : L2.Binds K fdRK ["cursor", "room", "deep"] []) (bRF : L2.Binds K fdRF ["cursor", "room", "deep"] []) (n : Nat) (hn4 : n + 1 ≤ 4)
    (G : FnOk P w K mg base (L2.CX P w) (5 + 2 * n) fRK fdRK ["cursor", "room", "deep"] (spRK C E n)) (GF : FnOk P w K mg base (L2.CX P w) (6 + 2 * n) fRF fdRF ["cursor", "room", "deep"] (spRF C E n)) :
    FnOk P w K mg base (L2.CX P w) (6 + 2 * n + 1) fRK fdRK ["cursor", "room", "deep"] (spRK C E (n + 1)) := by
  refine F.okX scRK (fun vs H Q E h => ?_) (fun cdv A outer s H vs Q Ex hr h => ?_)
  · obtain ⟨_, p, L, ts, i, room, rfl, _⟩ := h
    rfl
  · obtain ⟨_, p, L, ts, i, room, rfl, S, hz, r1, r2, k1, k2⟩ := h
    have hr4 : Room 4 _ := hr.mono (by omega)
    have hrk : Room (5 + 2 * n) _ := hr.mono (by omega)
    have hrf : Room (6 + 2 * n) _ := hr.mono (by omega)
    obtain ⟨aP, eP, hP⟩ := R.pl
    obtain ⟨tI, eI⟩ := R.mit
    refine ⟨_, (pss_cons (ps_set (i := 3) scRK.nd rfl (Or.inl rfl) (pe_meth (pv 0) T.cl T.mTk GK hr4 bK .nil (passes_call (takes_of rfl rfl rfl rfl) (fun _ _ _ _ h => h)) (pa_cons (pe_ifExp (pt_cmpR op_lt (pv 2) pe_int (nomark _)) (pe_glob (v := .ref aP) (by rfl) eP rfl) (pe_op op_catA (pe_glob (v := .ref aP) (by rfl) eP rfl) (pe_tup (pa_cons pe_str (pa_cons pe_str pa_nil))))) pa_nil)))
      (pss_cons (ps_if (pt_cmpR op_eq (pv 3) pe_str (nomark _)) (pss_cons (ps_set (i := 4) scRK.nd rfl (Or.inl rfl) (pe_meth (pv 0) T.cl R.mTW GW hr4 bW .nil (passes_call (takes_of rfl rfl rfl rfl) (fun _ _ _ _ h => h)) (pa_cons pe_int (pa_cons (pe_callB (call_min2 rfl) (by rfl) T.min PyProof.Rows.boot_min (pa_cons (pe_glob (v := .int 64) (by rfl) eI ⟨_, rfl⟩) (pa_cons (pv 1) pa_nil))) pa_nil))))
          (pss_one (ps_ret (pe_tup (pa_cons pe_str (pa_cons (pv 4) (pa_cons (pe_call G hrk (by rfl) R.rk R.krk bRK .nil (passes_call (takes_of rfl rfl rfl rfl) (fun _ _ _ _ h => h)) (pa_cons (pv 0) (pa_cons (pe_op op_fdivN (pv 1) (pv 4)) (pa_cons (pe_op op_sub (pv 2) pe_int) pa_nil)))) pa_nil))))))) pss_nil)
      (pss_cons (ps_if (pt_cmpR op_eq (pv 3) pe_str (nomark _)) (pss_one (ps_ret (pe_tup (pa_cons pe_str (pa_cons (pe_call GF hrf (by rfl) R.rf R.krf bRF .nil (passes_call (takes_of rfl rfl rfl rfl) (fun _ _ _ _ h => h)) (pa_cons (pv 0) (pa_cons (pv 1) (pa_cons (pe_op op_sub (pv 2) pe_int) pa_nil)))) pa_nil))))) pss_nil)
      (pss_one (ps_ret (pv 3)))))), ?_⟩
    obtain ⟨t, ht, et⟩ := S.tok
    obtain ⟨dx, xs, bt, t', hp, hL, ht', hl, hat, hb, hxs⟩ := S.at_
    refine ⟨_, rfl, p, dx, _, rfl, hp, cf_no _ _ (by decide +kernel), ?_⟩
    refine ⟨_, rfl, _, _, rfl, rfl, _, rfl, ?_⟩
    -- behind the word
    have plain : ∀ x : Str, plainS x = true ↔ x ∈ (["number", "truth"] : List Str) := fun x => by
      unfold plainS
      simp
    have bad : plainS t.s = false → (n = 0 ∨ (t.s ≠ "row" ∧ t.s ≠ "record")) → rdK ts (n + 1) room i = .bad i := fun h1 h2 => by
      unfold rdK
      rw [et, if_neg (by rw [h1]; exact Bool.false_ne_true)]
      by_cases hn : n = 0
      · rw [if_pos hn]
      · rw [if_neg hn]
        rcases h2 with h2 | ⟨h2, h3⟩
        · exact absurd h2 hn
        · rw [if_neg h2, if_neg h3]
    by_cases hn : n = 0
    · refine ifT (decide_eq_true (by omega)) ?_
      refine ⟨p, L, ts, i, t, aP, "number", ["truth"], rfl, S, ht, .inr (hP _), fun hm H' s1 c1 => ?_, fun hm d H' s1 h1 => k2 i (bad ?_ (.inl hn)) t ht d H' (SameC.of s1) h1⟩
      · have hp := (plain _).mpr hm
        have e1 : rdK ts (n + 1) room i = .ok (.str t.s) (nx ts i) := by
          unfold rdK
          rw [et, if_pos hp]
        have SS := SameC.trans (SameC.of (Same.refl H)) s1
        have nr : t.s ≠ ("row" : Str) := fun z => by rw [z] at hp; revert hp; decide +kernel
        have nd : t.s ≠ ("record" : Str) := fun z => by rw [z] at hp; revert hp; decide +kernel
        refine ⟨_, rfl, rfl, _, rfl, ?_⟩
        refine ifF (by rw [dec_str, decide_eq_false nr]) ?_
        refine ⟨_, rfl, rfl, _, rfl, ?_⟩
        refine ifF (by rw [dec_str, decide_eq_false nd]) ?_
        refine ⟨_, rfl, ?_⟩
        exact k1 _ _ e1 _ H' SS c1 (.str (hz t (List.mem_of_getElem? ht)))
      · rw [Bool.eq_false_iff]
        exact fun z => hm ((plain _).mp z)
    · refine ifF (decide_eq_false (by omega)) ?_
      have n1 : 1 ≤ n := by omega
      have en : (((n + 1 : Nat) : Int)) - 1 = ((n : Nat) : Int) := by omega
      refine ⟨(by show 2 ≤ sizeLine; decide), fun q hq => ?_⟩
      refine ⟨aP, q, _, _, rfl, rfl, hP _, SqT.of upd_same, (by show 4 ≤ sizeLine; decide), (fun e => by cases e), (fun _ e => by cases e), fun _ _ q2 hq2 => ?_⟩
      generalize hH2 : upd (upd H q _) q2 _ = H2
      have e2 : H2 q2 = some (.tup ((["number", "truth", "row", "record"] : List Str).map V.str)) := by rw [← hH2, upd_same]; rfl
      have s2 : Same H H2 := by rw [← hH2]; exact (same_new hq).trans (same_new hq2)
      refine ⟨p, L, ts, i, t, q2, "number", ["truth", "row", "record"], rfl, S.keep s2, ht, .inr (SqT.of e2), fun hm H' s1 c1 => ?_, fun hm d H' s1 h1 => k2 i (bad ?_ (.inr ⟨?_, ?_⟩)) t ht d H' (SameC.of (s2.trans s1)) h1⟩
      rotate_left
      · rw [Bool.eq_false_iff]
        intro z
        have := (plain _).mp z
        simp only [List.mem_cons, List.not_mem_nil, or_false] at this hm
        exact hm (this.elim .inl fun z => .inr (.inl z))
      · intro z
        rw [z] at hm
        exact hm (by decide +kernel)
      · intro z
        rw [z] at hm
        exact hm (by decide +kernel)
      have SS := (SameC.of (p := p) s2).trans s1
      cases hp : plainS t.s with
      | true =>
        have e1 : rdK ts (n + 1) room i = .ok (.str t.s) (nx ts i) := by
          unfold rdK
          rw [et, if_pos hp]
        have nr : t.s ≠ ("row" : Str) := fun z => by rw [z] at hp; revert hp; decide +kernel
        have nd : t.s ≠ ("record" : Str) := fun z => by rw [z] at hp; revert hp; decide +kernel
        refine ⟨_, rfl, rfl, _, rfl, ?_⟩
        refine ifF (by rw [dec_str, decide_eq_false nr]) ?_
        refine ⟨_, rfl, rfl, _, rfl, ?_⟩
        refine ifF (by rw [dec_str, decide_eq_false nd]) ?_
        refine ⟨_, rfl, ?_⟩
        exact k1 _ _ e1 _ H' SS c1 (.str (hz t (List.mem_of_getElem? ht)))
      | false =>
        obtain ⟨t2, ht2, et2⟩ := c1.tok
        obtain ⟨dx1, _, _, _, hp1, _⟩ := c1.at_
        by_cases cr : t.s = ("row" : Str)
        · refine ⟨_, rfl, rfl, _, rfl, ?_⟩
          refine ifT (by rw [dec_str, decide_eq_true cr]) ?_
          refine ⟨_, rfl, p, dx1, _, rfl, hp1, cf_no _ _ (by decide +kernel), ?_⟩
          refine ⟨_, rfl, _, _, rfl, ?_⟩
          rw [show (if room < 64 then room else 64) = min 64 room by rw [Int.min_def]; split <;> split <;> omega]
          have pf : plainS (tokS ts i) = false := by rw [et]; exact hp
          have cr' : tokS ts i = ("row" : Str) := by rw [et]; exact cr
          refine ⟨p, L, ts, _, t2, 1, _, rfl, c1, ht2, hz t2 (List.mem_of_getElem? ht2), (by decide), fun hw H3 s3 c3 => ?_, fun hw d H3 s3 h3 => k2 _ (rdK_row0 pf hn cr' (by rw [et2]; exact hw)) t2 ht2 d H3 (SS.trans (SameC.of s3)) h3⟩
          obtain ⟨o1, o2⟩ := rdK_row pf hn cr' (room := room) (by rw [et2]; exact hw)
          rw [et2] at o1 o2
          obtain ⟨a, b⟩ := wholeB_iff hw
          generalize wv t2.s = v at *
          have q1 : 1 ≤ room.fdiv v := by
            rw [Int.fdiv_eq_ediv_of_nonneg _ (by omega)]
            exact (Int.le_ediv_iff_mul_le (by omega)).mpr (by omega)
          have q2' : room.fdiv v ≤ 400 := by
            rw [Int.fdiv_eq_ediv_of_nonneg _ (by omega)]
            exact Int.le_trans (Int.ediv_le_self _ (by omega)) r2
          have SS3 := SS.trans s3
          refine ⟨_, rfl, _, rfl, _, rfl, _, rfl, _, _, rfl, rfl, ⟨by omega, by omega⟩, _, rfl, _, _, rfl, rfl, ?_⟩
          refine ⟨n1, p, L, ts, _, _, (by show [V.ref p, V.int (room.fdiv v), V.int (((n + 1 : Nat) : Int) - 1)] = _; rw [en]), c3, hz, q1, q2', fun d j e v1 H4 s4 c4 hv => ?_, fun e he t5 ht5 dd H4 s4 h4 => k2 e (o2 e he) t5 ht5 dd H4 (SS3.trans s4) h4⟩
          refine ⟨(by show 3 ≤ sizeLine; decide), fun qn hqn => ?_⟩
          have sn := same_new (o := .tup [V.str "row", .int v, v1]) hqn
          exact k1 _ _ (o1 d j e) _ _ ((SS3.trans s4).trans (SameC.of sn)) (c4.keep sn) (.tup upd_same (by show 3 ≤ 1000; decide) (.cons (.str (by decide +kernel)) (.cons (.int _) (.cons (hv.keep (Kv.of sn)) .nil))))
        · have cd : t.s = ("record" : Str) := by
            simp only [List.mem_cons, List.not_mem_nil, or_false] at hm
            rcases hm with h | h | h | h
            · rw [h] at hp
              exact absurd hp (by decide +kernel)
            · rw [h] at hp
              exact absurd hp (by decide +kernel)
            · exact absurd h cr
            · exact h
          have pf : plainS (tokS ts i) = false := by rw [et]; exact hp
          have cd' : tokS ts i = ("record" : Str) := by rw [et]; exact cd
          obtain ⟨o1, o2⟩ := rdK_rec pf hn cd' (room := room)
          refine ⟨_, rfl, rfl, _, rfl, ?_⟩
          refine ifF (by rw [dec_str, decide_eq_false cr]) ?_
          refine ⟨_, rfl, rfl, _, rfl, ?_⟩
          refine ifT (by rw [dec_str, decide_eq_true cd]) ?_
          refine ⟨_, rfl, _, rfl, _, rfl, _, _, rfl, rfl, ?_⟩
          refine ⟨n1, p, L, ts, _, _, (by show [V.ref p, V.int room, V.int (((n + 1 : Nat) : Int) - 1)] = _; rw [en]), c1, hz, r1, r2, (by omega), fun d j e v1 H4 s4 c4 hv => ?_, fun e he t5 ht5 dd H4 s4 h4 => k2 e (o2 e he) t5 ht5 dd H4 (SS.trans s4) h4⟩
          refine ⟨(by show 2 ≤ sizeLine; decide), fun qn hqn => ?_⟩
          have sn := same_new (o := .tup [V.str "record", v1]) hqn
          exact k1 _ _ (o1 d j e) _ _ ((SS.trans s4).trans (SameC.of sn)) (c4.keep sn) (.tup upd_same (by show 2 ≤ 1000; decide) (.cons (.str (by decide +kernel)) (.cons (hv.keep (Kv.of sn)) .nil)))
end
end K3

set_option Elab.async false
set_option linter.all false
set_option pp.maxSteps 700
set_option maxRecDepth 100000
set_option maxHeartbeats 4000000
namespace K3
open PySem PySem.Spec PyProof.Rows L2
open TL (tl)
theorem rdF_bad {ts : List Tok} {n : Nat} {rk : Int → Nat → Par} {k : Nat} {room : Int} {i : Nat} {fs : List (Str × Dt)} (h : ¬ (nameS (tokS ts i) = true ∧ tokS ts i ∉ fs.map (·.1))) : rdF ts n rk (k + 1) room i fs = .bad i := by
  unfold rdF
  rw [if_neg h]
theorem rdF_bad2 {ts : List Tok} {n : Nat} {rk : Int → Nat → Par} {k : Nat} {room : Int} {i e : Nat} {fs : List (Str × Dt)} (h : nameS (tokS ts i) = true ∧ tokS ts i ∉ fs.map (·.1)) (hk : rk room (nx ts i) = .bad e) : rdF ts n rk (k + 1) room i fs = .bad e := by
  unfold rdF
  rw [if_pos h, hk]
theorem rdF_ok {ts : List Tok} {n : Nat} {rk : Int → Nat → Par} {k : Nat} {room : Int} {i j : Nat} {d : Dt} {fs : List (Str × Dt)} (h : nameS (tokS ts i) = true ∧ tokS ts i ∉ fs.map (·.1)) (hk : rk room (nx ts i) = .ok d j) :
    (tokS ts j = (")" : Str) → rdF ts n rk (k + 1) room i fs = .ok (.tup ((fs ++ [(tokS ts i, d)]).map pairD)) (nx ts j)) ∧
    (tokS ts j ≠ (")" : Str) → (tokS ts j = ("," : Str) ∧ fs.length + 1 < 6 ∧ 0 < room - wordsN n d) → rdF ts n rk (k + 1) room i fs = rdF ts n rk k (room - wordsN n d) (nx ts j) (fs ++ [(tokS ts i, d)])) ∧
    (tokS ts j ≠ (")" : Str) → ¬ (tokS ts j = ("," : Str) ∧ fs.length + 1 < 6 ∧ 0 < room - wordsN n d) → rdF ts n rk (k + 1) room i fs = .bad j) := by
  refine ⟨fun a => ?_, fun a b => ?_, fun a b => ?_⟩
  · conv => lhs; unfold rdF
    rw [if_pos h, hk]
    exact if_pos a
  · conv => lhs; unfold rdF
    rw [if_pos h, hk]
    exact (if_neg a).trans (if_pos b)
  · conv => lhs; unfold rdF
    rw [if_pos h, hk]
    exact (if_neg a).trans (if_neg b)
section
variable {P : Program} {w : World} {K : PySem.W.Frag} {mg : Str → Option Value} {base : Heap}
variable {C CE E fI fB fT fK fF fW fN fN2 fX fRK fRF fWc : Addr} {fdK fdW fdN fdRK fdRF fdWc : FuncData}
variable (T : MgCu K mg C CE E fI fB fT fK fF fW fN fN2 fX) (R : MgRd K mg C fW fN fRK fRF fWc)
variable (GK : FnOk P w K mg base (L2.CX P w) 4 fK fdK ["self", "rights"] (spTake K C E)) (bK : L2.Binds K fdK ["self", "rights"] [])
variable (GN : FnOk P w K mg base (L2.CX P w) 4 fN fdN ["self", "wished", "barred", "is_free"] (spTakeN K C E)) (bN : L2.Binds K fdN ["self", "wished", "barred", "is_free"] [])
variable (GC : FnOk P w K mg base CX0 5 fWc fdWc ["kind"] (fun vs H Q E => ∃ n, n ≤ 4 ∧ spWc n vs H Q E)) (bC : L2.Binds K fdWc ["kind"] [])
include T R GK bK GN bN GC bC
theorem ok_rf (F : Fun K "_read_fields" "_read_fields" sRFs fRF fdRF) (bRK : L2.Binds K fdRK ["cursor", "room", "deep"] []) (n : Nat)
    (G : FnOk P w K mg base (L2.CX P w) (5 + 2 * n) fRK fdRK ["cursor", "room", "deep"] (spRK C E n)) :
    FnOk P w K mg base (L2.CX P w) (5 + 2 * n + 1) fRF fdRF ["cursor", "room", "deep"] (spRF C E n) := by
  refine F.okX scRF (fun vs H Q E h => ?_) (fun cdv A outer s H vs Q Ex hr h => ?_)
  · obtain ⟨_, p, L, ts, i, room, rfl, _⟩ := h
    rfl
  · obtain ⟨n1, p, L, ts, i, room, rfl, S, hz, r1, r2, n4, k1, k2⟩ := h
    have hr4 : Room 4 _ := hr.mono (by omega)
    have hr5 : Room 5 _ := hr.mono (by omega)
    have hrk : Room (5 + 2 * n) _ := hr.mono (by omega)
    obtain ⟨tF, eF⟩ := R.mfi
    refine ⟨_, (pss_cons (ps_set (i := 3) scRF.nd rfl (Or.inl rfl) (pe_lst pa_nil))
      (pss_cons (ps_set (i := 4) scRF.nd rfl (Or.inl rfl) (pe_lst pa_nil))
      (pss_cons (ps_set (i := 5) scRF.nd rfl (Or.inl rfl) (pe_meth (pv 0) T.cl T.mTk GK hr4 bK .nil (passes_call (takes_of rfl rfl rfl rfl) (fun _ _ _ _ h => h)) (pa_cons (pe_lst (pa_cons pe_str pa_nil)) pa_nil)))
      (pss_cons (ps_while (passes_of rfl) (pt_cmpR op_ne (pv 5) pe_str (nomark _))
          (pss_cons (ps_set (i := 6) scRF.nd rfl (Or.inl rfl) (pe_meth (pv 0) T.cl R.mTN GN hr4 bN .nil (passes_call (takes_of rfl rfl rfl rfl) (fun _ _ _ _ h => h)) (pa_cons (pe_lst pa_nil) (pa_cons (pv 4) (pa_cons pe_bl pa_nil)))))
          (pss_cons (ps_set (i := 7) scRF.nd rfl (Or.inl rfl) (pe_call G hrk (by rfl) R.rk R.krk bRK .nil (passes_call (takes_of rfl rfl rfl rfl) (fun _ _ _ _ h => h)) (pa_cons (pv 0) (pa_cons (pv 1) (pa_cons (pv 2) pa_nil)))))
          (pss_cons (ps_expr (qApp (pv 4) (pv 6)))
          (pss_cons (ps_expr (qApp (pv 3) (pe_tup (pa_cons (pv 6) (pa_cons (pv 7) pa_nil)))))
          (pss_cons (ps_aug (i := 1) scRF.nd rfl (Or.inl rfl) (pe_call GC hr5 (by rfl) R.wc R.kwc bC .nil pass0 (pa_cons (pv 7) pa_nil)) ip_sub)
          (pss_one (ps_set (i := 5) scRF.nd rfl (Or.inl rfl) (pe_meth (pv 0) T.cl T.mTk GK hr4 bK .nil (passes_call (takes_of rfl rfl rfl rfl) (fun _ _ _ _ h => h)) (pa_cons (pe_ifExp (PW.pt (pw_and (pt_cmpR op_lt (pe_callB call_len_seq (by rfl) T.len PySem.boot_len (pa_cons (pv 3) pa_nil)) (pe_glob (v := .int 6) (by rfl) eF ⟨_, rfl⟩) (nomark _)) (pw_and1 (pt_cmpR op_gt (pv 1) pe_int (nomark _))))) (pe_lst (pa_cons pe_str (pa_cons pe_str pa_nil))) (pe_lst (pa_cons pe_str pa_nil))) pa_nil))))))))))
      (pss_one (ps_ret (pe_callTy call_tuple_of (by rfl) R.tpl (by decide +kernel) (pa_cons (pv 3) pa_nil)))))))), ?_⟩
    obtain ⟨t, ht, et⟩ := S.tok
    obtain ⟨dx, xs, bt, t', hp, hL, ht', hl, hat, hb, hxs⟩ := S.at_
    refine ⟨Nat.zero_le _, fun Lf hLf => ?_⟩
    generalize hH1 : upd H Lf _ = H1
    obtain ⟨sf, ef⟩ := freshF hLf hH1
    refine ⟨Nat.zero_le _, fun Ln hLn => ?_⟩
    generalize hH2 : upd H1 Ln _ = H2
    obtain ⟨sn, en⟩ := freshF hLn hH2
    have s12 := sf.trans sn
    have ef2 := sn _ _ ef
    have nfn : Lf ≠ Ln := ne_of_none ef hLn
    have nfH : H Lf = none := hLf
    have nnH : H Ln = none := sf.free hLn
    refine ⟨_, rfl, p, dx, _, rfl, s12 _ _ hp, cf_no _ _ (by decide +kernel), (by show 1 ≤ sizeLine; decide), fun q hq => ?_⟩
    generalize hH3 : upd H2 q _ = H3
    obtain ⟨sq, eq⟩ := freshF hq hH3
    have s13 := s12.trans sq
    have nb : tokS ts i ≠ ("(" : Str) → rdFF ts n room i = .bad i := fun h => by
      unfold rdFF
      rw [if_neg h]
    have yb : tokS ts i = ("(" : Str) → rdFF ts n room i = rdF ts n (rdK ts n) 6 room (nx ts i) [] := fun h => by
      unfold rdFF
      rw [if_pos h]
    refine ⟨p, L, ts, i, t, q, "(", [], rfl, S.keep s13, ht, .inl (SqL.of eq), fun hm H4 s4 c4 => ?_, fun hm d H' s1 h1 => k2 i (nb (by rw [et]; intro z; exact hm (by rw [z]; exact List.mem_cons_self))) t ht d H' (SameC.of (s13.trans s1)) h1⟩
    have e0 : t.s = ("(" : Str) := List.mem_singleton.mp hm
    have eqF := yb (et.trans e0)
    have pf : Lf ≠ p := fun z => by rw [z, hp] at nfH; cases nfH
    have pn : Ln ≠ p := fun z => by rw [z, hp] at nnH; cases nnH
    refine while_m (fun m σ H' => ∃ (room' : Int) (j : Nat) (fs : List (Str × Dt)) (fv : List V) (sg : Str) (a6 a7 : Option V), σ = [some (.ref p), some (.int room'), some (.int (n : Nat)), some (.ref Lf), some (.ref Ln), some (.str sg), a6, a7] ∧ SameC p H H' ∧ CurAt C H' p L ts j ∧
      H' Lf = some (.lst fv) ∧ DVs p H' fv (fs.map pairD) ∧ H' Ln = some (.lst ((fs.map (·.1)).map V.str)) ∧ purs (fs.map pairD) = true ∧ fs.length ≤ 6 ∧
      ((m = 0 ∧ sg = (")" : Str) ∧ rdFF ts n room i = .ok (.tup (fs.map pairD)) j) ∨ (1 ≤ m ∧ sg ≠ (")" : Str) ∧ rdFF ts n room i = rdF ts n (rdK ts n) m room' j fs ∧ fs.length + m = 6 ∧ 1 ≤ room' ∧ room' ≤ 400))) 6
      ⟨room, nx ts i, [], [], _, _, _, rfl, (SameC.of s13).trans s4, c4, s4 _ _ (sq _ _ ef2) pf, .nil, s4 _ _ (sq _ _ en) pn, rfl, Nat.zero_le _, .inr ⟨by decide, by rw [e0]; decide +kernel, eqF, rfl, r1, r2⟩⟩ ?_
    rintro m σ H5 ⟨room', j, fs, fv, sg, a6, a7, rfl, s5, c5, ef5, dv5, en5, pu5, l5, hcase⟩
    refine ⟨_, rfl, rfl, _, rfl, ?_⟩
    rw [dec_str]
    rcases hcase with ⟨rfl, rfl, eok⟩ | ⟨m1, hsg, eqR, hlen, ra, rb⟩
    · refine ifF rfl ?_
      refine ⟨_, rfl, Lf, fv, rfl, .inl ⟨SqL.of ef5, fun l hl => ?_⟩⟩
      have sl := same_new (o := .tup fv) hl
      exact k1 _ _ eok _ _ (s5.trans (SameC.of sl)) (c5.keep sl) (.tup upd_same (by rw [List.length_map]; omega) (dv5.keep (Kv.of sl)))
    · refine ifT (by rw [decide_eq_false hsg]; rfl) ?_
      obtain ⟨m', rfl⟩ : ∃ m', m = m' + 1 := ⟨m - 1, by omega⟩
      obtain ⟨t5, ht5, et5⟩ := c5.tok
      obtain ⟨dx5, _, _, _, hp5, _⟩ := c5.at_
      refine ⟨_, fun _ _ h => h, ?_⟩
      -- name
      refine ⟨_, rfl, p, dx5, _, rfl, hp5, cf_no _ _ (by decide +kernel), Nat.zero_le _, fun q6 hq6 => ?_⟩
      generalize hH6 : upd H5 q6 _ = H6
      obtain ⟨s6, e6⟩ := freshF hq6 hH6
      refine ⟨_, rfl, p, L, ts, j, t5, q6, Ln, fs.map (·.1), rfl, c5.keep s6, ht5, hz t5 (List.mem_of_getElem? ht5), SqL.of e6, .inl (SqL.of (s6 _ _ en5)), (by rw [List.length_map]; omega), fun na nb' H7 s7 c7 => ?_, fun hno d H' s h => k2 j (eqR.trans (rdF_bad (by rw [et5]; exact hno))) t5 ht5 d H' (s5.trans (SameC.of (s6.trans s))) h⟩
      have hnm : nameS (tokS ts j) = true ∧ tokS ts j ∉ fs.map (·.1) := by rw [et5]; exact ⟨na, nb'⟩
      have s57 : SameC p H5 H7 := (SameC.of s6).trans s7
      -- kind
      refine ⟨_, rfl, _, rfl, _, rfl, n1, p, L, ts, nx ts j, room', rfl, c7, hz, ra, rb, fun d j1 e v H8 s8 c8 hv => ?_, fun e he t9 ht9 dd H' s h => k2 e (eqR.trans (rdF_bad2 hnm he)) t9 ht9 dd H' ((s5.trans s57).trans s) h⟩
      have g := rdK_good ts n room' _ d j1 ra e
      obtain ⟨o1, o2, o3⟩ := rdF_ok (k := m') (n := n) hnm e
      rw [et5] at o1 o2
      have s58 : SameC p H5 H8 := s57.trans s8
      have en8 := s58 _ _ en5 pn
      have ef8 := s58 _ _ ef5 pf
      have kt58 : Kt H5 H8 := c5.kt s58
      have lfv : fv.length = fs.length := by
        have := dv5.len
        rw [List.length_map] at this
        exact this
      -- names.append(name)
      refine ⟨_, rfl, .inl ⟨rfl, _, SqL.of en8⟩, _, rfl, Ln, _, _, rfl, rfl, en8, (by rw [List.length_map, List.length_map, sizeLine_eq]; omega), ?_⟩
      generalize hH9 : upd H8 Ln _ = H9
      have en9 : H9 Ln = some (.lst (((fs ++ [(t5.s, d)]).map (·.1)).map V.str)) := by
        rw [← hH9, upd_same, List.map_append, List.map_append]
        rfl
      have o9 : ∀ b o, H8 b = some o → b ≠ Ln → H9 b = some o := fun b o eb nb => by rw [← hH9, upd_ne nb]; exact eb
      have kt89 : Kt H8 H9 := by rw [← hH9]; exact Kt.put en8
      -- fields.append((name, kind))
      refine ⟨_, rfl, .inl ⟨rfl, _, SqL.of (o9 _ _ ef8 nfn)⟩, _, rfl, _, rfl, (by show 2 ≤ sizeLine; decide), fun q9 hq9 => ?_⟩
      generalize hHa : upd H9 q9 _ = Ha
      obtain ⟨sa, ea⟩ := freshF hq9 hHa
      have efa := sa _ _ (o9 _ _ ef8 nfn)
      refine ⟨Lf, fv, .ref q9, rfl, rfl, efa, (by rw [lfv, sizeLine_eq]; omega), ?_⟩
      generalize hHb : upd Ha Lf _ = Hb
      have efb : Hb Lf = some (.lst (fv ++ [.ref q9])) := by rw [← hHb, upd_same]
      have ob : ∀ b o, Ha b = some o → b ≠ Lf → Hb b = some o := fun b o eb nb => by rw [← hHb, upd_ne nb]; exact eb
      have ktab : Kt Ha Hb := by rw [← hHb]; exact Kt.put efa
      have enb : Hb Ln = some (.lst (((fs ++ [(t5.s, d)]).map (·.1)).map V.str)) := ob _ _ (sa _ _ en9) nfn.symm
      have kt8b : Kt H8 Hb := fun b xs eb => ktab _ _ (sa _ _ (kt89 _ _ eb))
      have s8b : ∀ b o, H8 b = some o → b ≠ Ln → b ≠ Lf → Hb b = some o := fun b o eb n1 n2 => ob _ _ (sa _ _ (o9 _ _ eb n1)) n2
      have pu2 : purs ((fs ++ [(t5.s, d)]).map pairD) = true := by
        rw [List.map_append]
        refine purs_snoc pu5 ?_
        show (PyData.strOk t5.s && (pur d && true)) = true
        rw [(name_parts na).2.2, g.pr]
        rfl
      have dvb : DVs p Hb (fv ++ [.ref q9]) ((fs ++ [(t5.s, d)]).map pairD) := by
        rw [List.map_append]
        refine (dv5.keepP (fun b xs eb => kt8b _ _ (kt58 _ _ eb)) pu5).snoc (.tup (ktab _ _ ea) (by show 2 ≤ 1000; decide) (.cons (.str (hz t5 (List.mem_of_getElem? ht5))) (.cons (hv.keepP kt8b g.pr) .nil)))
      have c8b : CurAt C Hb p L ts j1 := by
        obtain ⟨⟨dx8, h8⟩, ⟨xs8, hL8, pr8, l8⟩, lt8⟩ := c8
        have nL1 : L ≠ Ln := fun z => by rw [z] at hL; rw [hL] at nnH; cases nnH
        have nL2 : L ≠ Lf := fun z => by rw [z] at hL; rw [hL] at nfH; cases nfH
        exact ⟨⟨dx8, s8b _ _ h8 pn.symm pf.symm⟩, ⟨xs8, s8b _ _ hL8 nL1 nL2, toks_keep (fun b t eb => kt8b _ _ eb) pr8, l8⟩, lt8⟩
      have sHb : SameC p H Hb := fun b o eb nb => s8b _ _ (s58 _ _ (s5 _ _ eb nb) nb) (fun z => by rw [z, nnH] at eb; cases eb) (fun z => by rw [z, nfH] at eb; cases eb)
      -- room
      refine ⟨_, rfl, _, rfl, n, n4, n1, p, v, d, rfl, hv.keepP kt8b g.pr, g.fm, fun Hc sc => ?_⟩
      refine ⟨_, _, rfl, rfl, ?_⟩
      have cc := c8b.keep sc
      obtain ⟨tb, htb, etb⟩ := cc.tok
      obtain ⟨dxc, _, _, _, hpc, _⟩ := cc.at_
      rw [etb] at o1 o2 o3
      -- sign
      refine ⟨_, rfl, p, dxc, _, rfl, hpc, cf_no _ _ (by decide +kernel), ?_⟩
      have lfs : (fv ++ [V.ref q9]).length = fs.length + 1 := by rw [List.length_append, lfv]; rfl
      have gw := g.w1
      refine ⟨_, rfl, Lf, _, rfl, .inl (SqL.of (sc _ _ efb)), _, _, rfl, rfl, _, rfl, ?_⟩
      rw [lfs]
      by_cases ca : fs.length + 1 < 6
      · refine ifT (decide_eq_true (by omega)) ?_
        refine ⟨_, rfl, _, _, rfl, rfl, _, rfl, ?_⟩
        by_cases cb : 0 < room' - wordsN n d
        · refine ifT (decide_eq_true cb) ?_
          refine ⟨(by show 2 ≤ sizeLine; decide), fun qd hqd => ?_⟩
          generalize hHd : upd Hc qd _ = Hd
          obtain ⟨sd, ed⟩ := freshF hqd hHd
          have scd := sc.trans sd
          refine ⟨p, L, ts, j1, tb, qd, ")", [","], rfl, cc.keep sd, htb, .inl (SqL.of ed), fun hm He se ce => ?_, fun hm dd H' s h => k2 j1 (eqR.trans (o3 (fun z => hm (by rw [z]; exact List.mem_cons_self)) (fun z => hm (by rw [z.1]; exact List.mem_cons_of_mem _ List.mem_cons_self)))) tb htb dd H' (sHb.trans ((SameC.of scd).trans (SameC.of s))) h⟩
          have sbe : SameC p Hb He := (SameC.of scd).trans se
          have kbe : Kt Hb He := c8b.kt sbe
          have l6 : (fs ++ [(t5.s, d)]).length ≤ 6 := by rw [List.length_append, List.length_singleton]; omega
          by_cases c1 : tb.s = (")" : Str)
          · refine ⟨0, by omega, room' - wordsN n d, nx ts j1, fs ++ [(t5.s, d)], fv ++ [.ref q9], tb.s, _, _, rfl, sHb.trans sbe, ce, sbe _ _ efb pf, dvb.keepP kbe pu2, sbe _ _ enb pn, pu2, l6, .inl ⟨rfl, c1, eqR.trans (o1 c1)⟩⟩
          · have e2 : tb.s = ("," : Str) := by
              simp only [List.mem_cons, List.not_mem_nil, or_false] at hm
              exact hm.resolve_left c1
            refine ⟨m', by omega, room' - wordsN n d, nx ts j1, fs ++ [(t5.s, d)], fv ++ [.ref q9], tb.s, _, _, rfl, sHb.trans sbe, ce, sbe _ _ efb pf, dvb.keepP kbe pu2, sbe _ _ enb pn, pu2, l6, .inr ⟨by omega, c1, eqR.trans (o2 c1 ⟨e2, ca, cb⟩), by rw [List.length_append, List.length_singleton]; omega, by omega, by omega⟩⟩
        · refine ifF (decide_eq_false cb) ?_
          refine ⟨(by show 1 ≤ sizeLine; decide), fun qd hqd => ?_⟩
          generalize hHd : upd Hc qd _ = Hd
          obtain ⟨sd, ed⟩ := freshF hqd hHd
          have scd := sc.trans sd
          refine ⟨p, L, ts, j1, tb, qd, ")", [], rfl, cc.keep sd, htb, .inl (SqL.of ed), fun hm He se ce => ?_, fun hm dd H' s h => k2 j1 (eqR.trans (o3 (fun z => hm (by rw [z]; exact List.mem_cons_self)) (fun z => cb z.2.2))) tb htb dd H' (sHb.trans ((SameC.of scd).trans (SameC.of s))) h⟩
          have sbe : SameC p Hb He := (SameC.of scd).trans se
          have kbe : Kt Hb He := c8b.kt sbe
          have l6 : (fs ++ [(t5.s, d)]).length ≤ 6 := by rw [List.length_append, List.length_singleton]; omega
          by_cases c1 : tb.s = (")" : Str)
          · refine ⟨0, by omega, room' - wordsN n d, nx ts j1, fs ++ [(t5.s, d)], fv ++ [.ref q9], tb.s, _, _, rfl, sHb.trans sbe, ce, sbe _ _ efb pf, dvb.keepP kbe pu2, sbe _ _ enb pn, pu2, l6, .inl ⟨rfl, c1, eqR.trans (o1 c1)⟩⟩
          · exact absurd (List.mem_singleton.mp hm) c1
      · refine ifF (decide_eq_false (by omega)) ?_
        refine ⟨(by show 1 ≤ sizeLine; decide), fun qd hqd => ?_⟩
        generalize hHd : upd Hc qd _ = Hd
        obtain ⟨sd, ed⟩ := freshF hqd hHd
        have scd := sc.trans sd
        refine ⟨p, L, ts, j1, tb, qd, ")", [], rfl, cc.keep sd, htb, .inl (SqL.of ed), fun hm He se ce => ?_, fun hm dd H' s h => k2 j1 (eqR.trans (o3 (fun z => hm (by rw [z]; exact List.mem_cons_self)) (fun z => ca z.2.1))) tb htb dd H' (sHb.trans ((SameC.of scd).trans (SameC.of s))) h⟩
        have sbe : SameC p Hb He := (SameC.of scd).trans se
        have kbe : Kt Hb He := c8b.kt sbe
        have l6 : (fs ++ [(t5.s, d)]).length ≤ 6 := by rw [List.length_append, List.length_singleton]; omega
        by_cases c1 : tb.s = (")" : Str)
        · refine ⟨0, by omega, room' - wordsN n d, nx ts j1, fs ++ [(t5.s, d)], fv ++ [.ref q9], tb.s, _, _, rfl, sHb.trans sbe, ce, sbe _ _ efb pf, dvb.keepP kbe pu2, sbe _ _ enb pn, pu2, l6, .inl ⟨rfl, c1, eqR.trans (o1 c1)⟩⟩
        · exact absurd (List.mem_singleton.mp hm) c1
end
end K3

set_option Elab.async false
set_option linter.all false
set_option pp.maxSteps 700
set_option maxRecDepth 100000
set_option maxHeartbeats 4000000
namespace K3
open PySem PySem.Spec PyProof.Rows L2
open TL (tl)
abbrev sRdK : Stmt := top 42
abbrev sKO : Stmt := top 46
/-- a text of a kind: its tokens, read to the end -/
def koE (ts : List Tok) : Par :=
  if (match ts[0]? with | some t => t.i | none => none) = some 0 then
    match rdK ts 4 400 0 with
    | .bad e => .bad e
    | .ok d j => if tokS ts j = nlS then (if tokS ts (nx ts j) = etS then .ok d j else .bad (nx ts j)) else .bad j
  else .bad 0
theorem koE_0 {ts : List Tok} {t : Tok} (ht : ts[0]? = some t) (h : t.i ≠ some 0) : koE ts = .bad 0 := by
  unfold koE
  rw [ht]
  exact if_neg h
theorem koE_bad {ts : List Tok} {t : Tok} {e : Nat} (ht : ts[0]? = some t) (h : t.i = some 0) (hk : rdK ts 4 400 0 = .bad e) : koE ts = .bad e := by
  unfold koE
  rw [ht, hk]
  exact if_pos h
theorem koE_ok {ts : List Tok} {t : Tok} {d : Dt} {j : Nat} (ht : ts[0]? = some t) (h : t.i = some 0) (hk : rdK ts 4 400 0 = .ok d j) :
    (tokS ts j ≠ nlS → koE ts = .bad j) ∧ (tokS ts j = nlS → tokS ts (nx ts j) ≠ etS → koE ts = .bad (nx ts j)) ∧ (tokS ts j = nlS → tokS ts (nx ts j) = etS → koE ts = .ok d j) := by
  refine ⟨fun a => ?_, fun a b => ?_, fun a b => ?_⟩
  · unfold koE
    rw [ht, hk]
    exact (if_pos h).trans (if_neg a)
  · unfold koE
    rw [ht, hk]
    exact ((if_pos h).trans (if_pos a)).trans (if_neg b)
  · unfold koE
    rw [ht, hk]
    exact ((if_pos h).trans (if_pos a)).trans (if_pos b)
theorem go_len (n : Int) (l : List Nat) (i : Nat) (acc : List Tok) (b : Nat) (ha : ∀ t ∈ acc, t.s.length ≤ l.length + 1) : ∀ t ∈ go n l i acc b, t.s.length ≤ l.length + 1 := by
  induction i, acc, b using go.induct (n := n) (l := l) with
  | case1 i acc b h hb ih =>
    rw [go_blank h hb]
    exact ih ha
  | case2 i acc b h hb ih =>
    rw [go_tok h hb]
    refine ih fun t ht => ?_
    rcases List.mem_append.mp ht with ht | ht
    · exact ha t ht
    · rw [List.mem_singleton.mp ht]
      have e : (cut l i (tokEnd l i)).length = ((l.drop i).take (tokEnd l i - i)).length := rfl
      show (cut l i (tokEnd l i)).length ≤ _
      rw [e, List.length_take, List.length_drop]
      omega
  | case3 i b h =>
    rw [go_end h]
    intro t ht
    cases ht
  | case4 i acc b h hne =>
    rw [go_end h]
    intro t ht
    split at ht
    · cases ht
    · rcases List.mem_append.mp ht with ht | ht
      · exact ha t ht
      · rw [List.mem_singleton.mp ht]
        have : nlS.length = 1 := by decide +kernel
        show nlS.length ≤ _
        omega
theorem rows_lens : ∀ (rs : List Str) (i : Nat) {B : Nat}, (∀ r ∈ rs, r.length ≤ B) → ∀ t ∈ rowsToks i rs, t.s.length ≤ B + 1
  | [], _, _, _, t, ht => by cases ht
  | r :: rs, i, B, h, t, ht => by
    unfold rowsToks at ht
    rcases List.mem_append.mp ht with ht | ht
    · have h1 := go_len _ _ 0 [] 0 (fun t ht => by cases ht) t ht
      have h2 := body_len r
      have h3 := h r List.mem_cons_self
      have h4 : (tl (bodyOf r)).length = (bodyOf r).length := (TL.len_tl _).symm
      omega
    · exact rows_lens rs (i + 1) (fun r hr => h r (List.mem_cons_of_mem _ hr)) t ht
theorem all_lens {z : Str} (h : z.length ≤ 9999) : lens (allToks z) := fun t ht => by
  unfold allToks at ht
  rcases List.mem_append.mp ht with ht | ht
  · have := rows_lens _ 0 (B := 9999) (fun r hr => Nat.le_trans (row_len hr) h) t ht
    exact this
  · rw [List.mem_singleton.mp ht]
    show etS.length ≤ 10000
    decide +kernel
theorem all_pos (z : Str) : 0 < (allToks z).length := by
  unfold allToks
  rw [List.length_append]
  simp
theorem same_of {p : Addr} {H H1 H2 : Hp} (a : Same H H1) (b : SameC p H1 H2) (hp : H p = none) : Same H H2 := fun c o e => b _ _ (a _ _ e) (fun z => by rw [z, hp] at e; cases e)
def spRdK (C E : Addr) : Sp := fun vs H Q Ex => ∃ (p L : Addr) (ts : List Tok) (i : Nat), vs = [.ref p] ∧ CurAt C H p L ts i ∧ lens ts ∧ RdQ C E p L ts (rdK ts 4 400 i) H Q Ex
def spKO (K : PySem.W.Frag) (E : Addr) : Sp := fun vs H Q Ex =>
  (∃ z : Str, vs = [.str z] ∧ z.length ≤ 9999 ∧ (Txt.split z nlS).length ≤ 1500 ∧ (∀ d j, koE (allToks z) = .ok d j → ∀ v H', Same H H' → (∀ g, DV g H' v d) → Q v H') ∧
    (∀ e, koE (allToks z) = .bad e → ∀ t, (allToks z)[e]? = some t → ∀ dd H', Same H H' → H' dd = some (.xd (errF t)) → Ex (.ref E) (some dd) H')) ∨
  (∃ (v : V) (t : Value), vs = [v] ∧ TyX K H v t ∧ PySem.W.kitOne K t (.type "str") = some false ∧ ∀ (d : Addr) (H' : Hp), Same H H' → H' d = some (.xd (fs11 1 1)) → Ex (.ref E) (some d) H')
structure MgKo (K : PySem.W.Frag) (mg : Str → Option Value) (C fCI fRdK fTO fE fF : Addr) : Prop where
  mkC : Mk K C fCI
  mC : mg "Cursor" = some (.ref C)
  rd : mg "read_kind" = some (.ref fRdK)
  krd : PySem.W.keepIn K (.ref fRdK) = true
  to : mg "tokens_of" = some (.ref fTO)
  kto : PySem.W.keepIn K (.ref fTO) = true
  mE : Meth K C "take_end" fE
  mw : ∃ t, mg "MOST_WORDS" = some (.int 400 t)
  md : ∃ t, mg "MOST_DEEP" = some (.int 4 t)
  el : ∃ t, mg "END_OF_LINE" = some (.str nlS t)
section
variable {P : Program} {w : World} {K : PySem.W.Frag} {mg : Str → Option Value} {base : Heap}
variable {C CE E fI fB fT fK fF fW fN fN2 fX fRK fRF fWc fCI fRdK fTO : Addr} {fdB fdK fdF fdW fdN fdE fdRK fdRF fdWc fdRdK fdTO fdCI : FuncData}
theorem scRdK : FnScope ["cursor"] ["cursor"] (defScope sRdK) := ⟨rfl, rfl, rfl, by decide +kernel, rfl, by decide +kernel, by decide +kernel⟩
theorem scKO : FnScope ["text", "cursor", "kind"] ["text"] (defScope sKO) := ⟨rfl, rfl, rfl, by decide +kernel, rfl, by decide +kernel, by decide +kernel⟩
theorem ok_noneX {f : Addr} {fd : FuncData} {sp : Sp} (F : Fun K "_read_kind" "_read_kind" sRKd f fd) (h : ∀ vs H Q E, sp vs H Q E → False) {k : Nat} : FnOk P w K mg base (L2.CX P w) (k + 1) f fd ["cursor", "room", "deep"] sp := by
  refine F.okX scRK (fun vs H Q E hs => (h vs H Q E hs).elim) (fun cdv A outer s H vs Q Ex hr hs => (h vs H Q Ex hs).elim)
variable (T : MgCu K mg C CE E fI fB fT fK fF fW fN fN2 fX) (R : MgRd K mg C fW fN fRK fRF fWc) (O : MgKo K mg C fCI fRdK fTO fN2 fF)
variable (GK : FnOk P w K mg base (L2.CX P w) 4 fK fdK ["self", "rights"] (spTake K C E)) (bK : L2.Binds K fdK ["self", "rights"] [])
theorem ok_rk (T : MgCu K mg C CE E fI fB fT fK fF fW fN fN2 fX) (R : MgRd K mg C fW fN fRK fRF fWc) (GK : FnOk P w K mg base (L2.CX P w) 4 fK fdK ["self", "rights"] (spTake K C E)) (bK : L2.Binds K fdK ["self", "rights"] [])
    (GW : FnOk P w K mg base (L2.CX P w) 4 fW fdW ["self", "low", "high"] (spTakeW C E)) (bW : L2.Binds K fdW ["self", "low", "high"] [])
    (GN : FnOk P w K mg base (L2.CX P w) 4 fN fdN ["self", "wished", "barred", "is_free"] (spTakeN K C E)) (bN : L2.Binds K fdN ["self", "wished", "barred", "is_free"] [])
    (GC : FnOk P w K mg base CX0 5 fWc fdWc ["kind"] (fun vs H Q E => ∃ n, n ≤ 4 ∧ spWc n vs H Q E)) (bC : L2.Binds K fdWc ["kind"] [])
    (F : Fun K "_read_kind" "_read_kind" sRKd fRK fdRK) (bRK : L2.Binds K fdRK ["cursor", "room", "deep"] []) (FF : Fun K "_read_fields" "_read_fields" sRFs fRF fdRF) (bRF : L2.Binds K fdRF ["cursor", "room", "deep"] []) :
    ∀ n : Nat, n ≤ 4 → FnOk P w K mg base (L2.CX P w) (5 + 2 * n) fRK fdRK ["cursor", "room", "deep"] (spRK C E n)
  | 0, _ => ok_noneX F (k := 4) (fun vs H Q E h => absurd h.1 (by omega))
  | n + 1, h => by
    have G := ok_rk T R GK bK GW bW GN bN GC bC F bRK FF bRF n (by omega)
    have GF : FnOk P w K mg base (L2.CX P w) (6 + 2 * n) fRF fdRF ["cursor", "room", "deep"] (spRF C E n) := (ok_rf T R GK bK GN bN GC bC FF bRK n G).mono (by omega)
    exact (rk_step T R GK bK GW bW F bRK bRF n h G GF).mono (by omega)
theorem ok_rdk (F : Fun K "read_kind" "read_kind" sRdK fRdK fdRdK) (R : MgRd K mg C fW fN fRK fRF fWc) (O : MgKo K mg C fCI fRdK fTO fN2 fF) (G : FnOk P w K mg base (L2.CX P w) 13 fRK fdRK ["cursor", "room", "deep"] (spRK C E 4)) (bRK : L2.Binds K fdRK ["cursor", "room", "deep"] []) :
    FnOk P w K mg base (L2.CX P w) 14 fRdK fdRdK ["cursor"] (spRdK C E) := by
  refine F.okX scRdK (fun vs H Q E h => ?_) (fun cdv A outer s H vs Q Ex hr h => ?_)
  · obtain ⟨p, L, ts, i, rfl, _⟩ := h
    rfl
  · obtain ⟨p, L, ts, i, rfl, S, hz, k⟩ := h
    obtain ⟨tw, ew⟩ := O.mw
    obtain ⟨td, ed⟩ := O.md
    refine ⟨_, (pss_one (ps_ret (pe_call G hr (by rfl) R.rk R.krk bRK .nil (passes_call (takes_of rfl rfl rfl rfl) (fun _ _ _ _ h => h)) (pa_cons (pv 0) (pa_cons (pe_glob (v := .int 400) (by rfl) ew ⟨_, rfl⟩) (pa_cons (pe_glob (v := .int 4) (by rfl) ed ⟨_, rfl⟩) pa_nil)))))), ?_⟩
    exact ⟨_, rfl, by decide, p, L, ts, i, 400, rfl, S, hz, by decide, by decide, k⟩
include T R O GK bK
theorem ok_ko {f : Addr} {fd : FuncData} (F : Fun K "kind_of" "kind_of" sKO f fd) (GB : FnOk P w K mg base CX0 1 fB fdB ["self", "indent"] (spBegC C)) (bB : L2.Binds K fdB ["self", "indent"] [])
    (GF : FnOk P w K mg base (L2.CX P w) 4 fF fdF ["self", "indent", "rights"] (spTakeF K C E)) (bF : L2.Binds K fdF ["self", "indent", "rights"] []) (GE : FnOk P w K mg base (L2.CX P w) 4 fN2 fdE ["self"] (spTakeE C E)) (bE : L2.Binds K fdE ["self"] [])
    (GR : FnOk P w K mg base (L2.CX P w) 14 fRdK fdRdK ["cursor"] (spRdK C E)) (bR : L2.Binds K fdRdK ["cursor"] []) (GT : FnOk P w K mg base (L2.CX P w) 3 fTO fdTO ["text"] (spTO K E)) (bT : L2.Binds K fdTO ["text"] [])
    (GI : FnOk P w K mg base CX0 1 fCI fdCI ["self", "tokens", "completes"] (spCI C)) (bI : L2.Binds K fdCI ["self", "tokens", "completes"] []) :
    FnOk P w K mg base (L2.CX P w) 15 f fd ["text"] (spKO K E) := by
  refine F.okX scKO (fun vs H Q E h => ?_) (fun cdv A outer s H vs Q Ex hr h => ?_)
  · rcases h with ⟨z, rfl, _⟩ | ⟨v, t, rfl, _⟩ <;> rfl
  · obtain ⟨aP, eP, hP⟩ := R.pl
    obtain ⟨tl', el⟩ := O.el
    have hr1 : Room 1 _ := hr.mono (by omega)
    have hr2 : Room 2 _ := hr.mono (by omega)
    have hr3 : Room 3 _ := hr.mono (by omega)
    have hr4 : Room 4 _ := hr.mono (by omega)
    refine ⟨_, (pss_cons (ps_set (i := 1) scKO.nd rfl (Or.inl rfl) (pe_make O.mkC GI hr2 (by rfl) O.mC bI .nil pass0 (pa_cons (pe_call GT hr3 (by rfl) O.to O.kto bT .nil (passes_call (takes_of rfl rfl rfl rfl) (fun _ _ _ _ h => h)) (pa_cons (pv 0) pa_nil)) (pa_cons pe_bl pa_nil))))
      (pss_mid (ps_if (pt_not (pt_val (pe_meth (pv 1) T.cl T.mB GB hr1 bB .nil pass0 (pa_cons pe_int pa_nil)))) (pss_one (ps_expr (pe_meth (pv 1) T.cl T.mTF GF hr4 bF .nil (passes_call (takes_of rfl rfl rfl rfl) (fun _ _ _ _ h => h)) (pa_cons pe_int (pa_cons (pe_glob (v := .ref aP) (by rfl) eP rfl) pa_nil))))) pss_nil)
      (pss_cons (ps_set (i := 2) scKO.nd rfl (Or.inl rfl) (pe_call GR hr (by rfl) O.rd O.krd bR .nil (passes_call (takes_of rfl rfl rfl rfl) (fun _ _ _ _ h => h)) (pa_cons (pv 1) pa_nil)))
      (pss_cons (ps_expr (pe_meth (pv 1) T.cl T.mTk GK hr4 bK .nil (passes_call (takes_of rfl rfl rfl rfl) (fun _ _ _ _ h => h)) (pa_cons (pe_lst (pa_cons (pe_glob (v := .str nlS) (by rfl) el ⟨_, rfl⟩) pa_nil)) pa_nil)))
      (pss_cons (ps_expr (pe_meth0 (pv 1) T.cl O.mE GE hr4 bE .nil (passes_call (takes_of rfl rfl rfl rfl) (fun _ _ _ _ h => h))))
      (pss_one (ps_ret (pv 2)))))))), ?_⟩
    rcases h with ⟨z, rfl, hz, hrw, k1, k2⟩ | ⟨v, t, rfl, hty, hk, k⟩
    rotate_left
    · exact ⟨_, rfl, .inr ⟨v, t, rfl, hty, hk, fun d H' s h0 h1 => k d H' s h1⟩⟩
    refine ⟨_, rfl, .inl ⟨z, rfl, by omega, hrw, fun L xs H1 s1 hL0 hL pr hx => ?_⟩⟩
    intro p dx hp hdx hne
    have npL : L ≠ p := fun e => by rw [e, hp] at hL; cases hL
    have ndL : L ≠ dx := fun e => by rw [e, hdx] at hL; cases hL
    refine ⟨p, L, dx, rfl, upd_same, rfl, ?_⟩
    rw [upd_upd]
    have s1c : Same H1 (upd (upd H1 dx (.own p)) p (.ins C dx (cflds L 0))) := fun b o e => by
      rw [upd_ne (ne_of_none e hp), upd_ne (ne_of_none e hdx)]
      exact e
    have hpc : (upd (upd H1 dx (.own p)) p (.ins C dx (cflds L 0))) p = some (.ins C dx (cflds L 0)) := upd_same
    generalize upd (upd H1 dx (.own p)) p (.ins C dx (cflds L 0)) = Hc at *
    have S : CurAt C Hc p L (allToks z) 0 := ⟨⟨dx, hpc⟩, ⟨xs, s1c _ _ hL, toks_keep (KT.of s1c) pr, hx⟩, all_pos z⟩
    have hpH : H p = none := s1.free hp
    have sHc : Same H Hc := s1.trans s1c
    have lz := all_lens hz
    generalize allToks z = ts at *
    obtain ⟨t0, ht0, et0⟩ := S.tok
    refine ⟨fun σ H' => σ = [some (.str z), some (.ref p), none] ∧ H' = Hc ∧ t0.i = some 0, ?_, ?_⟩
    · refine ⟨_, rfl, p, dx, _, rfl, hpc, cf_no _ _ (by decide +kernel), p, L, ts, 0, t0, 0, rfl, S, ht0, ?_⟩
      refine ⟨_, rfl, ?_⟩
      by_cases hi : t0.i = some 0
      · rw [decide_eq_true hi]
        refine iteF ?_
        exact ⟨rfl, rfl, hi⟩
      · rw [decide_eq_false hi]
        refine iteT ?_
        exact ⟨_, rfl, p, dx, _, rfl, hpc, cf_no _ _ (by decide +kernel), p, L, ts, 0, t0, aP, "number", ["truth"], 0, rfl, S, ht0, .inr (hP _), hi, fun d H' s h1 => k2 0 (koE_0 ht0 hi) t0 ht0 d H' (sHc.trans s) h1⟩
    · rintro σ Hz ⟨rfl, rfl, hi⟩
      refine ⟨_, rfl, p, L, ts, 0, rfl, S, lz, fun d j e v H2 s2 c2 hv => ?_, fun e he t ht dd H' s h => k2 e (koE_bad ht0 hi he) t ht dd H' (same_of sHc s hpH) h⟩
      have g := rdK_good ts 4 400 0 d j (by decide) e
      obtain ⟨o1, o2, o3⟩ := koE_ok ht0 hi e
      obtain ⟨tj, htj, etj⟩ := c2.tok
      obtain ⟨dx2, _, _, _, hp2, _⟩ := c2.at_
      refine ⟨_, rfl, p, dx2, _, rfl, hp2, cf_no _ _ (by decide +kernel), (by show 1 ≤ sizeLine; decide), fun q hq => ?_⟩
      generalize hH3 : upd H2 q _ = H3
      obtain ⟨sq, eq⟩ := freshF hq hH3
      refine ⟨p, L, ts, j, tj, q, nlS, [], rfl, c2.keep sq, htj, .inl (SqL.of eq), fun hm H4 s4 c4 => ?_, fun hm d' H' s h => k2 j (o1 (by rw [etj]; exact fun z => hm (by rw [z]; exact List.mem_cons_self))) tj htj d' H' (same_of sHc (s2.trans ((SameC.of sq).trans (SameC.of s))) hpH) h⟩
      have e1 : tokS ts j = nlS := by rw [etj]; exact List.mem_singleton.mp hm
      obtain ⟨t4, ht4, et4⟩ := c4.tok
      obtain ⟨dx4, _, _, _, hp4, _⟩ := c4.at_
      have s24 : SameC p Hz H4 := s2.trans ((SameC.of sq).trans s4)
      have kt24 : Kt H2 H4 := c2.kt ((SameC.of sq).trans s4)
      refine ⟨_, rfl, p, dx4, _, rfl, hp4, cf_no _ _ (by decide +kernel), p, L, ts, nx ts j, t4, rfl, c4, ht4, fun e4 H5 s5 c5 => ?_, fun ne d' H' s h => k2 _ (o2 e1 (by rw [et4]; exact ne)) t4 ht4 d' H' (same_of sHc (s24.trans (SameC.of s)) hpH) h⟩
      have kt5 : Kt H2 H5 := fun b xs eb => (c4.kt s5) _ _ (kt24 _ _ eb)
      exact ⟨_, rfl, k1 d j (o3 e1 (by rw [et4]; exact e4)) v H5 (same_of sHc (s24.trans s5) hpH) fun g' => hv.keepP kt5 g.pr⟩
end
end K3

set_option Elab.async false
set_option linter.all false
set_option pp.maxSteps 700
set_option maxRecDepth 100000
set_option maxHeartbeats 4000000
namespace K3
open PySem PySem.Spec PyProof.Rows L2
open TL (tl)
abbrev sTx : Stmt := top 39
abbrev sKT : Stmt := top 48
abbrev sLTx : Stmt := top 60
/-! ### the text of a kind -/
def iTx (i : Int) : Str := Str.ofString (toString i)
def fTx (f : Dt → Str) : Dt → Str
  | .tup [.str s, y] => (s ++ (" " : Str)) ++ f y
  | _ => ""
def tx2 (f : Dt → Str) : List Dt → Str
  | [_, .tup l] => (("record(" : Str) ++ Txt.join (", " : Str) (l.map (fTx f))) ++ (")" : Str)
  | [_, .int i, z] => ((("row " : Str) ++ iTx i) ++ (" " : Str)) ++ f z
  | _ => ""
def txtN : Nat → Dt → Str
  | _, .str s => s
  | n + 2, .tup l => tx2 (txtN (n + 1)) l
  | _, _ => ""
theorem txt_str (n : Nat) (s : Str) : txtN n (.str s) = s := by
  cases n with
  | zero => rfl
  | succ n => cases n <;> rfl
theorem txt_two (n : Nat) (l : List Dt) : txtN (n + 2) (.tup l) = tx2 (txtN (n + 1)) l := rfl
def Bt : Nat → Nat
  | 0 => 6
  | n + 1 => 74 + 6 * Bt n
theorem Bt_6 : ∀ n, 6 ≤ Bt n
  | 0 => Nat.le_refl _
  | n + 1 => by unfold Bt; omega
theorem empty_app (x : Str) : Str.empty ++ x = x := Str.ext' (by rw [Str.cps_append]; exact Array.empty_append)
theorem app_len (x y : Str) : (x ++ y).length = x.length + y.length := Str.length_append ..
theorem iTx_len : ∀ i : Fin 65, (iTx ((i.val : Nat) : Int)).length ≤ 2 := by decide +kernel
theorem iTx_len' {i : Int} (h1 : 1 ≤ i) (h2 : i ≤ 64) : (iTx i).length ≤ 2 := by
  have := iTx_len ⟨i.toNat, by omega⟩
  rwa [show ((i.toNat : Nat) : Int) = i by omega] at this
theorem sum_lens {xs : List Str} {B : Nat} (h : ∀ x ∈ xs, x.length ≤ B) : (xs.map (·.length)).sum ≤ xs.length * B := by
  induction xs with
  | nil => simp
  | cons x xs ih =>
    have h1 := h x List.mem_cons_self
    have h2 := ih fun y hy => h y (List.mem_cons_of_mem _ hy)
    rw [List.map_cons, List.sum_cons, List.length_cons, Nat.succ_mul]
    omega
theorem fTx_len {n : Nat} {B : Nat} {l : List Dt} (hl : ∀ p ∈ l, pairF (formed (n + 1)) p = true) (ih : ∀ d, formed (n + 1) d = true → (txtN (n + 1) d).length ≤ B) : ∀ x ∈ l.map (fTx (txtN (n + 1))), x.length ≤ 9 + B := by
  intro x hx
  obtain ⟨p, hp, rfl⟩ := List.mem_map.mp hx
  obtain ⟨s, y, rfl, hs, hy⟩ := pairF_of (hl p hp)
  have h1 := ih y hy
  have h2 := (name_parts hs).2.1
  show ((s ++ (" " : Str)) ++ txtN (n + 1) y).length ≤ _
  rw [app_len, app_len]
  have h3 : (" " : Str).length = 1 := by decide +kernel
  omega
theorem txt_len : ∀ (n : Nat) (d : Dt), formed (n + 1) d = true → (txtN (n + 1) d).length ≤ Bt n
  | n, d, h => by
    rcases formed_cases h with ⟨s, rfl, hs⟩ | ⟨m, hm, ⟨l, rfl, h1, h2, h3, _⟩ | ⟨i, z, rfl, h1, h2, h3⟩⟩
    · rw [txt_str]
      have := Bt_6 n
      unfold plainS at hs
      rw [Bool.or_eq_true, beq_iff_eq, beq_iff_eq] at hs
      have : s.length ≤ 6 := by rcases hs with rfl | rfl <;> decide +kernel
      omega
    · obtain rfl : n = m + 1 := by omega
      rw [txt_two]
      show ((("record(" : Str) ++ Txt.join (", " : Str) (l.map (fTx (txtN (m + 1))))) ++ (")" : Str)).length ≤ _
      rw [app_len, app_len]
      have e1 : ("record(" : Str).length = 7 := by decide +kernel
      have e2 : (")" : Str).length = 1 := by decide +kernel
      have e3 : (", " : Str).length = 2 := by decide +kernel
      have hj : (Txt.join (", " : Str) (l.map (fTx (txtN (m + 1))))).length ≤ 6 * (9 + Bt m) + 6 * 2 := by
        show (Builtin.Str.glued _ _).length ≤ _
        rw [StrLaws.glued_eq_join]
        refine Nat.le_trans (StrLaws.join_length_le _ _) ?_
        have s1 := sum_lens (fTx_len h3 fun d hd => txt_len m d hd)
        rw [List.length_map] at s1 ⊢
        rw [e3]
        have := Nat.mul_le_mul_right (9 + Bt m) h2
        omega
      unfold Bt
      omega
    · obtain rfl : n = m + 1 := by omega
      rw [txt_two]
      show (((("row " : Str) ++ iTx i) ++ (" " : Str)) ++ txtN (m + 1) z).length ≤ _
      rw [app_len, app_len, app_len]
      have e1 : ("row " : Str).length = 4 := by decide +kernel
      have e2 : (" " : Str).length = 1 := by decide +kernel
      have := iTx_len' h1 h2
      have := txt_len m z h3
      unfold Bt
      omega
  termination_by n => n
  decreasing_by all_goals omega
def spTx (n : Nat) : Sp := fun vs H Q _ => 1 ≤ n ∧ n ≤ 4 ∧ ∃ (g : Addr) (v : V) (d : Dt), vs = [v] ∧ DV g H v d ∧ formed n d = true ∧ ∀ H', Same H H' → Q (.str (txtN n d)) H'
structure MgTx (K : PySem.W.Frag) (mg : Str → Option Value) (fTx fLx fPl : Addr) : Prop where
  tx : mg "text_of_kind" = some (.ref fTx)
  ktx : PySem.W.keepIn K (.ref fTx) = true
  lx : mg "_law_tx_kind" = some (.ref fLx)
  klx : PySem.W.keepIn K (.ref fLx) = true
  pln : mg "is_plain" = some (.ref fPl)
  kpln : PySem.W.keepIn K (.ref fPl) = true
  isi : mg "isinstance" = none
  str : mg "str" = none
theorem Bt_4 : ∀ {m : Nat}, m + 1 ≤ 3 → Bt (m + 1) ≤ 4478
  | 0, _ => by decide
  | 1, _ => by decide
  | 2, _ => by decide
section
variable {P : Program} {w : World} {K : PySem.W.Frag} {mg : Str → Option Value} {base : Heap}
variable {fTxa fLx fPl : Addr} {fdTx fdLx fdPl : FuncData}
theorem scTx : FnScope ["kind", "fields", "name", "inner"] ["kind"] (defScope sTx) := ⟨rfl, rfl, rfl, by decide +kernel, rfl, by decide +kernel, by decide +kernel⟩

theorem ok_tx (F : Fun K "text_of_kind" "text_of_kind" sTx fTxa fdTx) (T : MgTx K mg fTxa fLx fPl) (b : L2.Binds K fdTx ["kind"] []) (GPl : FnOk P w K mg base CX0 1 fPl fdPl ["value"] (spAsk plainB)) (bPl : L2.Binds K fdPl ["value"] []) :
    ∀ n : Nat, FnOk P w K mg base CX0 (n + 1) fTxa fdTx ["kind"] (spTx n)
  | 0 => ok_none F scTx (fun vs H Q E h => absurd h.1 (by omega))
  | n + 1 => by
    have G : FnOk P w K mg base CX0 (n + 1) fTxa fdTx ["kind"] (spTx n) := ok_tx F T b GPl bPl n
    refine F.ok scTx (fun vs H Q E h => ?_) (fun cdv A outer s H vs Q E hr h => ?_)
    · obtain ⟨_, _, g, v, d, rfl, _⟩ := h
      rfl
    · obtain ⟨_, n4, g, v, d, rfl, hd, hf, k⟩ := h
      have hr1 : Room 1 _ := hr.mono (by omega)
      refine ⟨_, (pss_cons (ps_if (pt_val (pe_call GPl hr1 (by rfl) T.pln T.kpln bPl .nil pass0 (pa_cons (pv 0) pa_nil))) (pss_one (ps_ret (pv 0))) pss_nil)
      (pss_cons (ps_if (pt_cmpR (op_eqS hr.units) (pe_ix ix_tup (pv 0) pe_int (fun _ _ => rfl)) pe_str (nomark _)) (pss_one (ps_ret (pe_joined (.cons pe_str (.cons (pe_fmt (pe_ix ix_tup (pv 0) pe_int (fun _ _ => rfl))) (.cons pe_str (.cons (pe_fmt (pe_call G hr (by rfl) T.tx T.ktx b .nil pass0 (pa_cons (pe_ix ix_tup (pv 0) pe_int (fun _ _ => rfl)) pa_nil))) .nil))))))) pss_nil)
      (pss_cons (ps_set (i := 1) scTx.nd rfl (Or.inl rfl) (pe_join pe_str (pe_lc (own := [("name", 2), ("inner", 3)]) (g := gTup K 2 (gCons (gName 2) (gCons (gName 3) gNil))) (tt := tYes) (by rfl) scTx.nd (pi_tup (pe_ix ix_tup (pv 0) pe_int (fun _ _ => rfl))) (blkOk_by (own := [("name", 2), ("inner", 3)]) (N := ["kind", "fields", "name", "inner"]) (sc := defScope sTx) (by decide +kernel)) (fun _ _ _ _ _ => (pg_tup (by rfl) (pgs_cons (pg_name (i := 2) scTx.nd rfl (Or.inl rfl)) (pgs_cons (pg_name (i := 3) scTx.nd rfl (Or.inl rfl)) pgs_nil)))) (fun _ _ _ _ _ => pts_nil) (fun _ _ _ _ _ => (pe_joined (.cons (pe_fmt (pv 2)) (.cons pe_str (.cons (pe_fmt (pe_call G hr (by rfl) T.tx T.ktx b .nil pass0 (pa_cons (pv 3) pa_nil))) .nil))))))))
      (pss_one (ps_ret (pe_joined (.cons pe_str (.cons (pe_fmt (pv 1)) (.cons pe_str .nil))))))))), ?_⟩
      refine ⟨_, rfl, g, v, d, rfl, hd, fun H1 s1 => ⟨_, rfl, ?_⟩⟩
      have hd1 := hd.keep (Kv.of s1)
      rcases formed_cases hf with ⟨s, rfl, hs⟩ | ⟨m, hm, hh⟩
      · refine ifT hs ?_
        obtain ⟨rfl, _⟩ := hd.str_inv
        have q := k H1 s1
        rw [txt_str] at q
        exact ⟨_, rfl, q⟩
      · obtain rfl : n = m + 1 := by omega
        have tl_ := txt_len (m + 1) d hf
        have b4 := Bt_4 (m := m) (by omega)
        have bm : Bt m ≤ 4478 := by unfold Bt at b4; omega
        rcases hh with ⟨l, rfl, l1, l2, all, _⟩ | ⟨i, z, rfl, i1, i2, hz⟩
        · refine iteF ?_
          obtain ⟨b, vx, vy, rfl, hb, hx, hy⟩ := hd1.tup2
          refine ⟨_, rfl, b, _, 0, vx, rfl, rfl, SqT.of hb, atI_nat (j := 0) rfl, g, .str "record", "row", rfl, hx, _, rfl, ?_⟩
          refine ifF (by decide +kernel) ?_
          obtain ⟨c, xs, rfl, hc, _, r⟩ := hy.tup_inv
          have lL := fTx_len all fun d hd => txt_len m d hd
          refine ⟨⟨_, rfl⟩, _, rfl, b, _, 1, .ref c, rfl, rfl, SqT.of hb, atI_nat (j := 1) rfl, c, rfl, ⟨_, SqT.of hc⟩, fun L hL => ?_⟩
          refine lc_tup (K := K) (a := c) (xs := xs) (te := fun σ H Q => tJs [tFmt (tVar 2), tC (.str (" " : Str)), tFmt (tCall (spTx (m + 1)) [] E0 (tCons (tVar 3) tNil))] Str.empty σ H fun out H1 => Q (.str out) H1)
            (fun i H' => H' L = some (.lst (((l.take i).map (fTx (txtN (m + 1)))).map V.str)) ∧ Same H1 H') ⟨upd_same, same_new hL⟩ (fun i H' _ ⟨_, s2⟩ => SqT.of (s2 _ _ hc)) ?_ ?_
          · rintro i x H' hi ⟨h1, s2⟩
            obtain ⟨p, hp, hx'⟩ := r.at_ hi
            obtain ⟨s, y, rfl, hs, hfy⟩ := pairF_of (all p (List.mem_of_getElem? hp))
            obtain ⟨e, v1, v2, rfl, he, h3, h4⟩ := (hx'.keep (Kv.of s2)).tup2
            obtain ⟨rfl, _⟩ := h3.str_inv
            have z1 := (name_parts hs).2.1
            have z2 := txt_len m y hfy
            have z3 : (" " : Str).length = 1 := by decide +kernel
            refine ⟨e, _, rfl, SqT.of he, rfl, _, _, rfl, _, _, rfl, rfl, rfl, ?_⟩
            refine ⟨_, rfl, .inl ⟨s, rfl, by rw [sizeLine_eq]; omega, _, rfl, by rw [empty_app, sizeLine_eq]; omega, _, rfl, by rw [empty_app, app_len, sizeLine_eq]; omega, _, rfl, by omega, by omega, g, v2, y, rfl, h4, hfy, fun H2 s3 => .inl ⟨_, rfl, by rw [sizeLine_eq]; omega, _, rfl, by rw [empty_app, app_len, app_len, sizeLine_eq]; omega, _, s3 _ _ h1, ?_, ?_, ?_⟩⟩⟩
            · rw [List.length_map, List.length_map, List.length_take, sizeLine_eq]
              omega
            · rw [upd_same, List.take_succ, hp, List.map_append, List.map_append, empty_app]
              rfl
            · intro b' o e'
              rw [upd_ne (ne_of_none e' hL)]
              exact s3 _ _ (s2 _ _ e')
          · rintro H2 ⟨h1, s2⟩
            have hlen := r.len
            rw [hlen, List.take_length] at h1
            have s1' := sum_lens lL
            rw [List.length_map] at s1'
            have e3 : (", " : Str).length = 2 := by decide +kernel
            have hm6 := Nat.mul_le_mul_right (9 + Bt m) l2
            have hj : (Txt.join (", " : Str) (l.map (fTx (txtN (m + 1))))).length ≤ 6 * (9 + Bt m) + 6 * 2 := by
              show (Builtin.Str.glued _ _).length ≤ _
              rw [StrLaws.glued_eq_join]
              refine Nat.le_trans (StrLaws.join_length_le _ _) ?_
              rw [List.length_map, e3]
              omega
            refine ⟨_, L, _, rfl, rfl, .inl (SqL.of h1), by rw [List.length_map, e3]; omega, ?_⟩
            have e1 : ("record(" : Str).length = 7 := by decide +kernel
            have e2 : (")" : Str).length = 1 := by decide +kernel
            refine ⟨_, rfl, by rw [empty_app, e1, sizeLine_eq]; omega, _, rfl, .inl ⟨_, rfl, by rw [sizeLine_eq]; omega, _, rfl, by rw [empty_app, app_len, sizeLine_eq]; omega, _, rfl, by rw [empty_app, app_len, app_len, sizeLine_eq]; omega, ?_⟩⟩
            rw [empty_app]
            exact k H2 (s1.trans s2)
        · refine iteF ?_
          obtain ⟨b, vx, vy, vz, rfl, hb, hx, hy, hz'⟩ := hd1.tup3
          obtain rfl := hy.int_inv
          refine ⟨_, rfl, b, _, 0, vx, rfl, rfl, SqT.of hb, atI_nat (j := 0) rfl, g, .str "row", "row", rfl, hx, _, rfl, ?_⟩
          refine ifT (by decide +kernel) ?_
          have z1 := iTx_len' i1 i2
          have z2 := txt_len m z hz
          have e1 : ("row " : Str).length = 4 := by decide +kernel
          have e2 : (" " : Str).length = 1 := by decide +kernel
          refine ⟨_, rfl, by rw [empty_app, e1, sizeLine_eq]; omega, _, rfl, b, _, 1, _, rfl, rfl, SqT.of hb, atI_nat (j := 1) rfl, .inr ⟨i, rfl, log_small (by omega), _, rfl, by rw [empty_app, app_len, sizeLine_eq]; show _ + (iTx i).length ≤ _; omega, _, rfl, by rw [empty_app, app_len, app_len, sizeLine_eq]; show _ + (iTx i).length + _ ≤ _; omega,
            _, rfl, b, _, 2, vz, rfl, rfl, SqT.of hb, atI_nat (j := 2) rfl, by omega, by omega, g, vz, z, rfl, hz', hz, fun H2 s2 => .inl ⟨_, rfl, by rw [sizeLine_eq]; omega, _, rfl, by rw [empty_app, app_len, app_len, app_len, sizeLine_eq]; show _ + (iTx i).length + _ + _ ≤ _; omega, ?_⟩⟩⟩
          rw [empty_app]
          exact k H2 (s1.trans s2)
end
end K3

set_option Elab.async false
set_option linter.all false
set_option pp.maxSteps 700
set_option maxRecDepth 100000
set_option maxHeartbeats 4000000
namespace K3
open PySem PySem.Spec PyProof.Rows L2
open TL (tl)
/-- kind_text: a kind's text, or BadKind -/
def spKT (C : Addr) : Sp := fun vs H Q Ex => ∃ (g : Addr) (v : V) (d : Dt), vs = [v] ∧ DV g H v d ∧ ((kindB d = true ∧ ∀ H', Same H H' → Q (.str (txtN 4 d)) H') ∨ (kindB d = false ∧ ∀ H', Same H H' → Ex (.ref C) none H'))
section
variable {P : Program} {w : World} {K : PySem.W.Frag} {mg : Str → Option Value} {base : Heap}
variable {fTxa fLx fPl fKd C : Addr} {fdTx fdLx fdPl fdKd : FuncData}
theorem scKT : FnScope ["kind"] ["kind"] (defScope sKT) := ⟨rfl, rfl, rfl, by decide +kernel, rfl, by decide +kernel, by decide +kernel⟩
theorem scLTx : FnScope ["kind", "name", "inner"] ["kind"] (defScope sLTx) := ⟨rfl, rfl, rfl, by decide +kernel, rfl, by decide +kernel, by decide +kernel⟩
theorem ok_kt {f : Addr} {fd : FuncData} (F : Fun K "kind_text" "kind_text" sKT f fd) (T : MgTx K mg fTxa fLx fPl) {fNk : Addr} (R : MgR K mg fKd fNk C) (GKd : FnOk P w K mg base CX0 10 fKd fdKd ["value"] (spAsk kindB)) (bKd : L2.Binds K fdKd ["value"] [])
    (G : FnOk P w K mg base CX0 5 fTxa fdTx ["kind"] (spTx 4)) (b : L2.Binds K fdTx ["kind"] []) : FnOk P w K mg base (L2.CX P w) 11 f fd ["kind"] (spKT C) := by
  refine F.okX scKT (fun vs H Q E h => ?_) (fun cdv A outer s H vs Q Ex hr h => ?_)
  · obtain ⟨g, v, d, rfl, _⟩ := h
    rfl
  · obtain ⟨g, v, d, rfl, hd, h⟩ := h
    have hr5 : Room 5 _ := hr.mono (by omega)
    refine ⟨_, (pss_cons (ps_if (pt_not (pt_val (pe_call GKd hr (by rfl) R.kd R.kkd bKd .nil pass0 (pa_cons (pv 0) pa_nil)))) (pss_one (ps_raise rfl (takes_of rfl rfl rfl rfl) (pmk_own PySem.F.excBase_ValueError R.exI R.bk R.kbk (raises_own R.sub R.ty) (by rfl)))) pss_nil)
      (pss_one (ps_ret (pe_call G hr5 (by rfl) T.tx T.ktx b .nil pass0 (pa_cons (pv 0) pa_nil))))), ?_⟩
    refine ⟨_, rfl, g, v, d, rfl, hd, fun H1 s1 => ⟨_, rfl, ?_⟩⟩
    have hd1 := hd.keep (Kv.of s1)
    rcases h with ⟨hk, k⟩ | ⟨hk, k⟩
    · refine ifF (by rw [hk]; rfl) ?_
      have hf : formed 4 d = true := by
        unfold kindB at hk
        rw [Bool.and_eq_true] at hk
        exact hk.1
      exact ⟨_, rfl, by decide, by decide, g, v, d, rfl, hd1, hf, fun H2 s2 => k H2 (s1.trans s2)⟩
    · refine ifT (by rw [hk]; rfl) ?_
      exact k H1 s1
theorem ok_ltx (F : Fun K "_law_tx_kind" "_law_tx_kind" sLTx fLx fdLx) (T : MgTx K mg fTxa fLx fPl) (b : L2.Binds K fdLx ["kind"] []) : ∀ n : Nat, FnOk P w K mg base CX0 (n + 1) fLx fdLx ["kind"] (spTx n)
  | 0 => ok_none F scLTx (fun vs H Q E h => absurd h.1 (by omega))
  | n + 1 => by
    have G : FnOk P w K mg base CX0 (n + 1) fLx fdLx ["kind"] (spTx n) := ok_ltx F T b n
    refine F.ok scLTx (fun vs H Q E h => ?_) (fun cdv A outer s H vs Q E hr h => ?_)
    · obtain ⟨_, _, g, v, d, rfl, _⟩ := h
      rfl
    · obtain ⟨_, n4, g, v, d, rfl, hd, hf, k⟩ := h
      obtain ⟨ty, hty, ks, _, _, _⟩ := hd.ty (K := K)
      refine ⟨_, (pss_cons (ps_if (pt_val (pe_callB call_isi (by rfl) T.isi (by decide +kernel) (pa_cons (pv 0) (pa_cons (pe_bltn (v := .ty "str") (by rfl) T.str boot_str rfl) pa_nil)))) (pss_one (ps_ret (pv 0))) pss_nil)
      (pss_cons (ps_if (pt_cmpR (op_eqS hr.units) (pe_ix ix_tup (pv 0) pe_int (fun _ _ => rfl)) pe_str (nomark _)) (pss_one (ps_ret (pe_op op_add_str (pe_op op_add_str (pe_op op_add_str pe_str (pe_callTy call_str_int (by rfl) T.str (by decide +kernel) (pa_cons (pe_ix ix_tup (pv 0) pe_int (fun _ _ => rfl)) pa_nil))) pe_str) (pe_call G hr (by rfl) T.lx T.klx b .nil pass0 (pa_cons (pe_ix ix_tup (pv 0) pe_int (fun _ _ => rfl)) pa_nil))))) pss_nil)
      (pss_one (ps_ret (pe_op op_add_str (pe_op op_add_str pe_str (pe_join pe_str (pe_lc (own := [("name", 1), ("inner", 2)]) (g := gTup K 2 (gCons (gName 1) (gCons (gName 2) gNil))) (tt := tYes) (by rfl) scLTx.nd (pi_tup (pe_ix ix_tup (pv 0) pe_int (fun _ _ => rfl))) (blkOk_by (own := [("name", 1), ("inner", 2)]) (N := ["kind", "name", "inner"]) (sc := defScope sLTx) (by decide +kernel)) (fun _ _ _ _ _ => (pg_tup (by rfl) (pgs_cons (pg_name (i := 1) scLTx.nd rfl (Or.inl rfl)) (pgs_cons (pg_name (i := 2) scLTx.nd rfl (Or.inl rfl)) pgs_nil)))) (fun _ _ _ _ _ => pts_nil) (fun _ _ _ _ _ => (pe_op op_add_str (pe_op op_add_str (pv 1) pe_str) (pe_call G hr (by rfl) T.lx T.klx b .nil pass0 (pa_cons (pv 2) pa_nil))))))) pe_str))))), ?_⟩
      refine ⟨_, rfl, _, _, _, _, _, rfl, .ty "str", hty, ks, _, rfl, ?_⟩
      rcases formed_cases hf with ⟨s, rfl, hs⟩ | ⟨m, hm, hh⟩
      · refine iteT ?_
        obtain ⟨rfl, _⟩ := hd.str_inv
        have q := k H (Same.refl H)
        rw [txt_str] at q
        exact ⟨_, rfl, q⟩
      · obtain rfl : n = m + 1 := by omega
        have tl_ := txt_len (m + 1) d hf
        have b4 := Bt_4 (m := m) (by omega)
        have bm : Bt m ≤ 4478 := by unfold Bt at b4; omega
        rcases hh with ⟨l, rfl, l1, l2, all, _⟩ | ⟨i, z, rfl, i1, i2, hz⟩
        · refine iteF ?_
          obtain ⟨b, vx, vy, rfl, hb, hx, hy⟩ := hd.tup2
          refine ⟨_, rfl, b, _, 0, vx, rfl, rfl, SqT.of hb, atI_nat (j := 0) rfl, g, .str "record", "row", rfl, hx, _, rfl, ?_⟩
          refine ifF (by decide +kernel) ?_
          obtain ⟨c, xs, rfl, hc, _, r⟩ := hy.tup_inv
          have lL := fTx_len all fun d hd => txt_len m d hd
          have s1' := sum_lens lL
          rw [List.length_map] at s1'
          have e3 : (", " : Str).length = 2 := by decide +kernel
          have hm6 := Nat.mul_le_mul_right (9 + Bt m) l2
          have e1 : ("record(" : Str).length = 7 := by decide +kernel
          have e2 : (")" : Str).length = 1 := by decide +kernel
          have hj : (Txt.join (", " : Str) (l.map (fTx (txtN (m + 1))))).length ≤ 6 * (9 + Bt m) + 6 * 2 := by
            show (Builtin.Str.glued _ _).length ≤ _
            rw [StrLaws.glued_eq_join]
            refine Nat.le_trans (StrLaws.join_length_le _ _) ?_
            rw [List.length_map, e3]
            omega
          refine ⟨⟨_, rfl⟩, _, rfl, b, _, 1, .ref c, rfl, rfl, SqT.of hb, atI_nat (j := 1) rfl, c, rfl, ⟨_, SqT.of hc⟩, fun L hL => ?_⟩
          refine lc_tup (K := K) (a := c) (xs := xs) (te := tOp (fun x y H Q => ∃ i j, x = V.str i ∧ y = V.str j ∧ i.length + j.length ≤ sizeLine ∧ Q (V.str (i ++ j)) H) (tOp (fun x y H Q => ∃ i j, x = V.str i ∧ y = V.str j ∧ i.length + j.length ≤ sizeLine ∧ Q (V.str (i ++ j)) H) (tVar 1) (tC (V.str (" " : Str)))) (tCall (spTx (m + 1)) [] E0 (tCons (tVar 2) tNil)))
            (fun i H' => H' L = some (.lst (((l.take i).map (fTx (txtN (m + 1)))).map V.str)) ∧ Same H H') ⟨upd_same, same_new hL⟩ (fun i H' _ ⟨_, s2⟩ => SqT.of (s2 _ _ hc)) ?_ ?_
          · rintro i x H' hi ⟨h1, s2⟩
            obtain ⟨p, hp, hx'⟩ := r.at_ hi
            obtain ⟨s, y, rfl, hs, hfy⟩ := pairF_of (all p (List.mem_of_getElem? hp))
            obtain ⟨e, v1, v2, rfl, he, h3, h4⟩ := (hx'.keep (Kv.of s2)).tup2
            obtain ⟨rfl, _⟩ := h3.str_inv
            have z1 := (name_parts hs).2.1
            have z2 := txt_len m y hfy
            have z3 : (" " : Str).length = 1 := by decide +kernel
            refine ⟨e, _, rfl, SqT.of he, rfl, _, _, rfl, _, _, rfl, rfl, rfl, ?_⟩
            refine ⟨_, rfl, _, _, rfl, rfl, by rw [sizeLine_eq]; omega, _, rfl, by omega, by omega, g, v2, y, rfl, h4, hfy, fun H2 s3 => ⟨_, _, rfl, rfl, by rw [app_len, sizeLine_eq]; omega, _, s3 _ _ h1, ?_, ?_, ?_⟩⟩
            · rw [List.length_map, List.length_map, List.length_take, sizeLine_eq]
              omega
            · rw [upd_same, List.take_succ, hp, List.map_append, List.map_append]
              rfl
            · intro b' o e'
              rw [upd_ne (ne_of_none e' hL)]
              exact s3 _ _ (s2 _ _ e')
          · rintro H2 ⟨h1, s2⟩
            have hlen := r.len
            rw [hlen, List.take_length] at h1
            refine ⟨_, L, _, rfl, rfl, .inl (SqL.of h1), by rw [List.length_map, e3]; omega, ?_⟩
            refine ⟨_, _, rfl, rfl, by rw [e1, sizeLine_eq]; omega, _, _, rfl, rfl, by rw [app_len, e1, e2, sizeLine_eq]; omega, ?_⟩
            exact k H2 s2
        · refine iteF ?_
          obtain ⟨b, vx, vy, vz, rfl, hb, hx, hy, hz'⟩ := hd.tup3
          obtain rfl := hy.int_inv
          refine ⟨_, rfl, b, _, 0, vx, rfl, rfl, SqT.of hb, atI_nat (j := 0) rfl, g, .str "row", "row", rfl, hx, _, rfl, ?_⟩
          refine ifT (by decide +kernel) ?_
          have z1 := iTx_len' i1 i2
          have z2 := txt_len m z hz
          have e1 : ("row " : Str).length = 4 := by decide +kernel
          have e2 : (" " : Str).length = 1 := by decide +kernel
          refine ⟨_, rfl, b, _, 1, _, rfl, rfl, SqT.of hb, atI_nat (j := 1) rfl, i, rfl, log_small (by omega), _, _, rfl, rfl, by rw [sizeLine_eq]; show _ + (iTx i).length ≤ _; omega, _, _, rfl, rfl, by rw [app_len, sizeLine_eq]; show _ + (iTx i).length + _ ≤ _; omega,
            _, rfl, b, _, 2, vz, rfl, rfl, SqT.of hb, atI_nat (j := 2) rfl, by omega, by omega, g, vz, z, rfl, hz', hz, fun H2 s2 => ⟨_, _, rfl, rfl, by rw [app_len, app_len, sizeLine_eq]; show _ + (iTx i).length + _ + _ ≤ _; omega, ?_⟩⟩
          exact k H2 s2
end
end K3

set_option Elab.async false
set_option linter.all false
set_option pp.maxSteps 700
set_option maxRecDepth 100000
set_option maxHeartbeats 4000000
namespace K3
open PySem PySem.Spec PyProof.Rows L2
open TL (tl)
/-! ### the law's own reader, step by step, and the program's -/
inductive Fr where
  | row (n : Int)
  | rec_ (ns : List Str) (w : Int)
inductive Wt where
  | kind | items | paren | name | more | line | text | done
/-- factor and least of a stack, its top ahead -/
def fl : List Fr → Int × Int
  | [] => (1, 0)
  | .row n :: r => ((fl r).1 * n, (fl r).2)
  | .rec_ _ w :: r => ((fl r).1, (fl r).2 + (fl r).1 * w)
def closedS : List Fr → Int → List Fr × Wt
  | [], _ => ([], .line)
  | .row n :: r, w => closedS r (w * n)
  | .rec_ ns v :: r, w => (.rec_ ns (v + w) :: r, .more)
def stepS : List Fr × Wt → Str → Option (List Fr × Wt)
  | (s, .kind), x => if x = ("row" : Str) then (if s.length < 3 then some (.row 1 :: s, .items) else none)
      else if x = ("record" : Str) then (if s.length < 3 then some (.rec_ [] 0 :: s, .paren) else none)
      else if plainS x = true then some (closedS s 1) else none
  | (s, .items), x => if wholeB x 1 64 = true ∧ (fl s).2 + (fl s).1 * wv x ≤ 400 then some (.row (wv x) :: s.tail, .kind) else none
  | (s, .paren), x => if x = ("(" : Str) then some (.rec_ [] 0 :: s.tail, .name) else none
  | (.rec_ ns w :: r, .name), x => if nameS x = true ∧ x ∉ ns then some (.rec_ (ns ++ [x]) w :: r, .kind) else none
  | (.rec_ ns w :: r, .more), x => if x = ("," : Str) then (if ns.length < 6 ∧ (fl (.rec_ ns w :: r)).2 + (fl (.rec_ ns w :: r)).1 ≤ 400 then some (.rec_ ns w :: r, .name) else none)
      else if x = (")" : Str) then some (closedS r w) else none
  | (s, .line), x => if x = nlS then some (s, .text) else none
  | (s, .text), x => if x = etS then some (s, .done) else none
  | _, _ => none
theorem step_kind (s : List Fr) (x : Str) : stepS (s, .kind) x = if x = ("row" : Str) then (if s.length < 3 then some (.row 1 :: s, .items) else none)
      else if x = ("record" : Str) then (if s.length < 3 then some (.rec_ [] 0 :: s, .paren) else none)
      else if plainS x = true then some (closedS s 1) else none := by cases s <;> rfl
theorem step_items (s : List Fr) (x : Str) : stepS (s, .items) x = if wholeB x 1 64 = true ∧ (fl s).2 + (fl s).1 * wv x ≤ 400 then some (.row (wv x) :: s.tail, .kind) else none := by cases s <;> rfl
theorem step_paren (s : List Fr) (x : Str) : stepS (s, .paren) x = if x = ("(" : Str) then some (.rec_ [] 0 :: s.tail, .name) else none := by cases s <;> rfl
theorem step_name (ns : List Str) (w : Int) (r : List Fr) (x : Str) : stepS (.rec_ ns w :: r, .name) x = if nameS x = true ∧ x ∉ ns then some (.rec_ (ns ++ [x]) w :: r, .kind) else none := rfl
theorem step_more (ns : List Str) (w : Int) (r : List Fr) (x : Str) : stepS (.rec_ ns w :: r, .more) x = if x = ("," : Str) then (if ns.length < 6 ∧ (fl (.rec_ ns w :: r)).2 + (fl (.rec_ ns w :: r)).1 ≤ 400 then some (.rec_ ns w :: r, .name) else none)
      else if x = (")" : Str) then some (closedS r w) else none := rfl
def fwL : List Str → Nat → List Fr × Wt → Option Nat
  | [], _, _ => none
  | x :: r, i, st => match stepS st x with
    | none => some i
    | some st' => fwL r (i + 1) st'
def wsD (ts : List Tok) (i : Nat) : List Str := (ts.drop i).map (·.s)
theorem wsD_cons {ts : List Tok} {i : Nat} (h : i < ts.length) : wsD ts i = tokS ts i :: wsD ts (i + 1) := by
  unfold wsD
  rw [List.drop_eq_getElem_cons h, List.map_cons, tokS_of (List.getElem?_eq_getElem h)]
theorem fw_no {ts : List Tok} {i : Nat} {st : List Fr × Wt} (h : i < ts.length) (hs : stepS st (tokS ts i) = none) : fwL (wsD ts i) i st = some i := by
  rw [wsD_cons h]
  unfold fwL
  rw [hs]
theorem fw_yes {ts : List Tok} {i : Nat} {st st' : List Fr × Wt} (h : i < ts.length) (hs : stepS st (tokS ts i) = some st') : fwL (wsD ts i) i st = fwL (wsD ts (i + 1)) (i + 1) st' := by
  rw [wsD_cons h]
  conv => lhs; unfold fwL
  rw [hs]
/-- the last token is the end of the text, which is right nowhere in a kind -/
structure Ends (ts : List Tok) : Prop where
  pos : 0 < ts.length
  last : tokS ts (ts.length - 1) = etS
theorem nx_of {ts : List Tok} (e : Ends ts) {i : Nat} (h : i < ts.length) (hn : tokS ts i ≠ etS) : nx ts i = i + 1 ∧ i + 1 < ts.length := by
  have h1 : i ≠ ts.length - 1 := fun z => hn (by rw [z]; exact e.last)
  unfold nx
  omega
def RK (ts : List Tok) (n : Nat) : Prop := ∀ (room : Int) (i : Nat) (s : List Fr), i < ts.length → s.length + n = 4 → 0 < (fl s).1 → room = (400 - (fl s).2) / (fl s).1 → 1 ≤ room →
  (∀ e, rdK ts n room i = .bad e → fwL (wsD ts i) i (s, .kind) = some e) ∧
  (∀ d j, rdK ts n room i = .ok d j → j < ts.length ∧ fwL (wsD ts i) i (s, .kind) = fwL (wsD ts j) j (closedS s (wordsN n d)))
theorem plain_ne {x : Str} (h : plainS x = true) : x ≠ "row" ∧ x ≠ "record" ∧ x ≠ etS := by
  refine ⟨fun z => ?_, fun z => ?_, fun z => ?_⟩ <;>
  · rw [z] at h
    exact absurd h (by decide +kernel)
theorem name_ne {x : Str} (h : nameS x = true) : x ≠ etS := fun z => by
  have := (name_parts h).1
  rw [z] at this
  exact absurd this (by decide +kernel)
theorem whole_ne {x : Str} {lo hi : Int} (h : wholeB x lo hi = true) : x ≠ etS := fun z => by
  unfold wholeB at h
  rw [Bool.and_eq_true, decide_eq_true_iff, z] at h
  exact absurd h.1 (by decide +kernel)
theorem whole_min {x : Str} {room : Int} : wholeB x 1 (min 64 room) = (wholeB x 1 64 && decide (wv x ≤ room)) := by
  unfold wholeB
  cases decide (1 ≤ x.length) <;> cases decide (x.length ≤ 5) <;> cases (tl x).all isDig <;> cases (!(decide ((tl x).getD 0 0 = 48) && !decide (x = ("0" : Str)))) <;> cases decide (1 ≤ wv x) <;> simp only [Bool.false_and, Bool.and_false, Bool.true_and]
  rw [Bool.eq_iff_iff, Bool.and_eq_true, decide_eq_true_iff, decide_eq_true_iff, decide_eq_true_iff]
  omega
/-- the fields of a record -/
theorem fields_run {ts : List Tok} (E : Ends ts) {n : Nat} (A : RK ts n) (n1 : 1 ≤ n) {s : List Fr} (hs : s.length + 1 + n = 4) (hf : 0 < (fl s).1) : ∀ (k : Nat) (room : Int) (i : Nat) (fs : List (Str × Dt)) (w : Int), i < ts.length → fs.length + k = 6 →
    w = (fs.map (fun f => wordsN n f.2)).sum → room = (400 - ((fl s).2 + (fl s).1 * w)) / (fl s).1 → 1 ≤ room →
    (∀ e, rdF ts n (rdK ts n) k room i fs = .bad e → k ≠ 0 → fwL (wsD ts i) i (.rec_ (fs.map (·.1)) w :: s, .name) = some e) ∧
    (∀ d j, rdF ts n (rdK ts n) k room i fs = .ok d j → j < ts.length ∧ fwL (wsD ts i) i (.rec_ (fs.map (·.1)) w :: s, .name) = fwL (wsD ts j) j (closedS s (sumW (wordsN n) d)))
  | 0, room, i, fs, w, hi, hl, hw, hr, h1 => by
    refine ⟨fun e h hk => absurd rfl hk, fun d j h => ?_⟩
    unfold rdF at h
    cases h
  | k + 1, room, i, fs, w, hi, hl, hw, hr, h1 => by
    by_cases hn : nameS (tokS ts i) = true ∧ tokS ts i ∉ fs.map (·.1)
    rotate_left
    · have e0 := rdF_bad (n := n) (rk := rdK ts n) (k := k) (room := room) hn
      refine ⟨fun e h _ => ?_, fun d j h => by rw [e0] at h; cases h⟩
      rw [e0] at h
      injection h with h
      rw [← h]
      refine fw_no hi ?_
      rw [step_name, if_neg hn]
    have st1 : stepS (.rec_ (fs.map (·.1)) w :: s, .name) (tokS ts i) = some (.rec_ (fs.map (·.1) ++ [tokS ts i]) w :: s, .kind) := by
      rw [step_name, if_pos hn]
    obtain ⟨x1, x2⟩ := nx_of E hi (name_ne hn.1)
    have r1 := fw_yes hi st1
    obtain ⟨a1, a2⟩ := A room (i + 1) (.rec_ (fs.map (·.1) ++ [tokS ts i]) w :: s) x2 (by rw [List.length_cons]; omega) hf hr h1
    cases hk : rdK ts n room (nx ts i) with
    | bad e1 =>
      have e0 := rdF_bad2 (n := n) (rk := rdK ts n) (k := k) (room := room) hn hk
      rw [x1] at hk
      refine ⟨fun e h _ => ?_, fun d j h => by rw [e0] at h; cases h⟩
      rw [e0] at h
      injection h with h
      rw [r1, ← h]
      exact a1 e1 hk
    | ok d1 j1 =>
      obtain ⟨o1, o2, o3⟩ := rdF_ok (n := n) (rk := rdK ts n) (k := k) (room := room) hn hk
      have g1 := rdK_good ts n room _ d1 j1 h1 hk
      rw [x1] at hk
      obtain ⟨hj, r2⟩ := a2 d1 j1 hk
      have r3 : fwL (wsD ts i) i (.rec_ (fs.map (·.1)) w :: s, .name) = fwL (wsD ts j1) j1 (.rec_ ((fs ++ [(tokS ts i, d1)]).map (·.1)) (w + wordsN n d1) :: s, .more) := by
        rw [r1, r2, List.map_append]
        rfl
      have hw' : w + wordsN n d1 = ((fs ++ [(tokS ts i, d1)]).map (fun f => wordsN n f.2)).sum := by
        rw [List.map_append, List.sum_append, ← hw]
        simp
      have ln : ((fs ++ [(tokS ts i, d1)]).map (·.1)).length = fs.length + 1 := by rw [List.length_map, List.length_append]; rfl
      have hroom : (400 - ((fl s).2 + (fl s).1 * (w + wordsN n d1))) / (fl s).1 = room - wordsN n d1 := by
        rw [hr, Int.mul_add, show 400 - ((fl s).2 + ((fl s).1 * w + (fl s).1 * wordsN n d1)) = 400 - ((fl s).2 + (fl s).1 * w) + (fl s).1 * (-(wordsN n d1)) by rw [Int.mul_neg]; omega, Int.add_mul_ediv_left _ _ (by omega)]
        omega
      have hpos : 0 < room - wordsN n d1 ↔ (fl (.rec_ ((fs ++ [(tokS ts i, d1)]).map (·.1)) (w + wordsN n d1) :: s)).2 + (fl (.rec_ ((fs ++ [(tokS ts i, d1)]).map (·.1)) (w + wordsN n d1) :: s)).1 ≤ 400 := by
        show _ ↔ (fl s).2 + (fl s).1 * (w + wordsN n d1) + (fl s).1 ≤ 400
        rw [← hroom]
        rw [show (0 < (400 - ((fl s).2 + (fl s).1 * (w + wordsN n d1))) / (fl s).1) ↔ 1 ≤ (400 - ((fl s).2 + (fl s).1 * (w + wordsN n d1))) / (fl s).1 from Iff.rfl, Int.le_ediv_iff_mul_le hf]
        omega
      by_cases c1 : tokS ts j1 = (")" : Str)
      · have e0 := o1 c1
        refine ⟨fun e h _ => (by rw [e0] at h; cases h), fun d j h => ?_⟩
        rw [e0] at h
        injection h with h2 h3
        obtain ⟨y1, y2⟩ := nx_of E hj (by rw [c1]; decide +kernel)
        rw [← h3, y1, ← h2]
        refine ⟨y2, ?_⟩
        rw [r3, sumW_pairs, ← hw']
        refine fw_yes hj ?_
        rw [step_more, if_neg (by rw [c1]; decide +kernel), if_pos c1]
      · by_cases c2 : tokS ts j1 = ("," : Str) ∧ fs.length + 1 < 6 ∧ 0 < room - wordsN n d1
        · have e0 := o2 c1 c2
          obtain ⟨y1, y2⟩ := nx_of E hj (by rw [c2.1]; decide +kernel)
          rw [e0, y1]
          have st2 : stepS (.rec_ ((fs ++ [(tokS ts i, d1)]).map (·.1)) (w + wordsN n d1) :: s, .more) (tokS ts j1) = some (.rec_ ((fs ++ [(tokS ts i, d1)]).map (·.1)) (w + wordsN n d1) :: s, .name) := by
            rw [step_more, if_pos c2.1, if_pos ⟨by rw [ln]; exact c2.2.1, hpos.mp c2.2.2⟩]
          obtain ⟨q1, q2⟩ := fields_run E A n1 hs hf k (room - wordsN n d1) (j1 + 1) (fs ++ [(tokS ts i, d1)]) (w + wordsN n d1) y2 (by rw [List.length_append, List.length_singleton]; omega) hw' hroom.symm (by omega)
          rw [r3, fw_yes hj st2]
          exact ⟨fun e h _ => q1 e h (by omega), q2⟩
        · have e0 := o3 c1 c2
          refine ⟨fun e h _ => ?_, fun d j h => by rw [e0] at h; cases h⟩
          rw [e0] at h
          injection h with h
          rw [r3, ← h]
          refine fw_no hj ?_
          rw [step_more]
          by_cases c3 : tokS ts j1 = ("," : Str)
          · rw [if_pos c3, if_neg (fun z => c2 ⟨c3, by rw [ln] at z; exact z.1, hpos.mpr z.2⟩)]
          · rw [if_neg c3, if_neg c1]
end K3

set_option Elab.async false
set_option linter.all false
set_option pp.maxSteps 700
set_option maxRecDepth 100000
set_option maxHeartbeats 4000000
namespace K3
open PySem PySem.Spec PyProof.Rows L2
open TL (tl)
theorem rdK_bad {ts : List Tok} {n : Nat} {room : Int} {i : Nat} (hp : plainS (tokS ts i) = false) (h : n = 0 ∨ (tokS ts i ≠ ("row" : Str) ∧ tokS ts i ≠ ("record" : Str))) : rdK ts (n + 1) room i = .bad i := by
  unfold rdK
  rw [if_neg (by rw [hp]; exact Bool.false_ne_true)]
  by_cases hn : n = 0
  · rw [if_pos hn]
  · rw [if_neg hn]
    rcases h with h | ⟨h1, h2⟩
    · exact absurd h hn
    · rw [if_neg h1, if_neg h2]
theorem kind_run {ts : List Tok} (E : Ends ts) : ∀ n, RK ts (n + 1)
  | n => by
    intro room i s hi hs hf hr h1
    by_cases hp : plainS (tokS ts i) = true
    · obtain ⟨p1, p2, p3⟩ := plain_ne hp
      obtain ⟨x1, x2⟩ := nx_of E hi p3
      have e0 : rdK ts (n + 1) room i = .ok (.str (tokS ts i)) (nx ts i) := by
        unfold rdK
        rw [if_pos hp]
      refine ⟨fun e h => (by rw [e0] at h; cases h), fun d j h => ?_⟩
      rw [e0] at h
      injection h with h2 h3
      rw [← h2, ← h3, x1, words_str]
      refine ⟨x2, fw_yes hi ?_⟩
      rw [step_kind, if_neg p1, if_neg p2, if_pos hp]
    · have hpf : plainS (tokS ts i) = false := Bool.eq_false_iff.mpr hp
      by_cases hn : n = 0
      · have e0 := rdK_bad (room := room) hpf (.inl hn)
        refine ⟨fun e h => ?_, fun d j h => (by rw [e0] at h; cases h)⟩
        rw [e0] at h
        injection h with h2
        rw [← h2]
        refine fw_no hi ?_
        rw [step_kind, if_neg (show ¬ s.length < 3 by omega), if_neg (show ¬ s.length < 3 by omega), if_neg hp]
        split
        · rfl
        · split <;> rfl
      · obtain ⟨m, rfl⟩ : ∃ m, n = m + 1 := ⟨n - 1, by omega⟩
        have A := kind_run E m
        by_cases cr : tokS ts i = ("row" : Str)
        · obtain ⟨x1, x2⟩ := nx_of E hi (by rw [cr]; decide +kernel)
          have st1 : stepS (s, .kind) (tokS ts i) = some (.row 1 :: s, .items) := by
            rw [step_kind, if_pos cr, if_pos (by omega)]
          have r1 := fw_yes hi st1
          have hc : ((fl (.row 1 :: s)).2 + (fl (.row 1 :: s)).1 * wv (tokS ts (i + 1)) ≤ 400) ↔ wv (tokS ts (i + 1)) ≤ room := by
            show (fl s).2 + (fl s).1 * 1 * wv (tokS ts (i + 1)) ≤ 400 ↔ _
            rw [Int.mul_one, hr, Int.le_ediv_iff_mul_le hf, Int.mul_comm]
            omega
          cases hw : wholeB (tokS ts (i + 1)) 1 (min 64 room) with
          | false =>
            have e0 := rdK_row0 hpf hn cr (room := room) (by rw [x1]; exact hw)
            refine ⟨fun e h => ?_, fun d j h => (by rw [e0] at h; cases h)⟩
            rw [e0, x1] at h
            injection h with h2
            rw [r1, ← h2]
            refine fw_no x2 ?_
            rw [step_items, if_neg]
            rintro ⟨a, b⟩
            rw [whole_min, a, decide_eq_true (hc.mp b)] at hw
            cases hw
          | true =>
            obtain ⟨o1, o2⟩ := rdK_row hpf hn cr (room := room) (by rw [x1]; exact hw)
            rw [x1] at o1 o2
            obtain ⟨y1, y2⟩ := nx_of E x2 (whole_ne hw)
            rw [y1] at o1 o2
            have hw2 := hw
            rw [whole_min, Bool.and_eq_true, decide_eq_true_iff] at hw2
            obtain ⟨a, b⟩ := wholeB_iff hw
            have st2 : stepS (.row 1 :: s, .items) (tokS ts (i + 1)) = some (.row (wv (tokS ts (i + 1))) :: s, .kind) := by
              rw [step_items, if_pos ⟨hw2.1, hc.mpr hw2.2⟩]
              rfl
            have r2 := fw_yes x2 st2
            generalize wv (tokS ts (i + 1)) = v at *
            have hv0 : 0 < v := by omega
            have er : room.fdiv v = (400 - (fl (.row v :: s)).2) / (fl (.row v :: s)).1 := by
              show _ = (400 - (fl s).2) / ((fl s).1 * v)
              rw [Int.fdiv_eq_ediv_of_nonneg _ (by omega), hr, Int.ediv_ediv, if_neg (fun z => absurd z.1 (by omega)), Int.sub_zero]
            have q1 : 1 ≤ room.fdiv v := by
              rw [Int.fdiv_eq_ediv_of_nonneg _ (by omega)]
              exact (Int.le_ediv_iff_mul_le (by omega)).mpr (by omega)
            obtain ⟨a1, a2⟩ := A (room.fdiv v) (i + 1 + 1) (.row v :: s) y2 (by rw [List.length_cons]; omega) (Int.mul_pos hf hv0) er q1
            cases hk : rdK ts (m + 1) (room.fdiv v) (i + 1 + 1) with
            | bad e1 =>
              have e0 := o2 e1 hk
              refine ⟨fun e h => ?_, fun d j h => (by rw [e0] at h; cases h)⟩
              rw [e0] at h
              injection h with h2
              rw [r1, r2, ← h2]
              exact a1 e1 hk
            | ok d1 j1 =>
              have e0 := o1 d1 j1 hk
              refine ⟨fun e h => (by rw [e0] at h; cases h), fun d j h => ?_⟩
              rw [e0] at h
              injection h with h2 h3
              obtain ⟨b1, b2⟩ := a2 d1 j1 hk
              rw [r1, r2, ← h2, ← h3, words_two]
              refine ⟨b1, ?_⟩
              rw [b2]
              show _ = fwL _ _ (closedS s (v * wordsN (m + 1) d1))
              rw [Int.mul_comm]
              rfl
        · by_cases cd : tokS ts i = ("record" : Str)
          · obtain ⟨x1, x2⟩ := nx_of E hi (by rw [cd]; decide +kernel)
            have st1 : stepS (s, .kind) (tokS ts i) = some (.rec_ [] 0 :: s, .paren) := by
              rw [step_kind, if_neg cr, if_pos cd, if_pos (by omega)]
            have r1 := fw_yes hi st1
            obtain ⟨o1, o2⟩ := rdK_rec hpf hn cd (room := room)
            rw [x1] at o1 o2
            by_cases cp : tokS ts (i + 1) = ("(" : Str)
            · obtain ⟨y1, y2⟩ := nx_of E x2 (by rw [cp]; decide +kernel)
              have st2 : stepS (.rec_ [] 0 :: s, .paren) (tokS ts (i + 1)) = some (.rec_ [] 0 :: s, .name) := by
                rw [step_paren, if_pos cp]
                rfl
              have r2 := fw_yes x2 st2
              have ef : rdFF ts (m + 1) room (i + 1) = rdF ts (m + 1) (rdK ts (m + 1)) 6 room (i + 1 + 1) [] := by
                unfold rdFF
                rw [if_pos cp, y1]
              obtain ⟨q1, q2⟩ := fields_run E A (by omega) (s := s) (by omega) hf 6 room (i + 1 + 1) [] 0 y2 rfl rfl (by rw [Int.mul_zero, Int.add_zero]; exact hr) h1
              cases hk : rdF ts (m + 1) (rdK ts (m + 1)) 6 room (i + 1 + 1) [] with
              | bad e1 =>
                have e0 := o2 e1 (ef.trans hk)
                refine ⟨fun e h => ?_, fun d j h => (by rw [e0] at h; cases h)⟩
                rw [e0] at h
                injection h with h2
                rw [r1, r2, ← h2]
                exact q1 e1 hk (by decide)
              | ok d1 j1 =>
                have e0 := o1 d1 j1 (ef.trans hk)
                refine ⟨fun e h => (by rw [e0] at h; cases h), fun d j h => ?_⟩
                rw [e0] at h
                injection h with h2 h3
                obtain ⟨b1, b2⟩ := q2 d1 j1 hk
                rw [r1, r2, ← h2, ← h3, words_two]
                exact ⟨b1, b2⟩
            · have ef : rdFF ts (m + 1) room (i + 1) = .bad (i + 1) := by
                unfold rdFF
                rw [if_neg cp]
              have e0 := o2 _ ef
              refine ⟨fun e h => ?_, fun d j h => (by rw [e0] at h; cases h)⟩
              rw [e0] at h
              injection h with h2
              rw [r1, ← h2]
              refine fw_no x2 ?_
              rw [step_paren, if_neg cp]
          · have e0 := rdK_bad (n := m + 1) (room := room) hpf (.inr ⟨cr, cd⟩)
            refine ⟨fun e h => ?_, fun d j h => (by rw [e0] at h; cases h)⟩
            rw [e0] at h
            injection h with h2
            rw [← h2]
            refine fw_no hi ?_
            rw [step_kind, if_neg cr, if_neg cd, if_neg hp]
/-- the law's first wrong token is the program's -/
theorem first_wrong {ts : List Tok} (E : Ends ts) {t : Tok} (ht : ts[0]? = some t) (hi : t.i = some 0) :
    (∀ e, koE ts = .bad e → fwL (wsD ts 0) 0 ([], .kind) = some e) ∧
    (∀ d j, koE ts = .ok d j → j + 1 < ts.length ∧ tokS ts j = nlS ∧ tokS ts (j + 1) = etS ∧ fwL (wsD ts 0) 0 ([], .kind) = fwL (wsD ts (j + 2)) (j + 2) ([], .done)) := by
  obtain ⟨a1, a2⟩ := kind_run E 3 400 0 [] E.pos rfl (by decide) (by decide) (by decide)
  cases hk : rdK ts 4 400 0 with
  | bad e1 =>
    have e0 := koE_bad ht hi hk
    refine ⟨fun e h => ?_, fun d j h => (by rw [e0] at h; cases h)⟩
    rw [e0] at h
    injection h with h2
    rw [← h2]
    exact a1 e1 hk
  | ok d1 j1 =>
    obtain ⟨o1, o2, o3⟩ := koE_ok ht hi hk
    obtain ⟨b1, b2⟩ := a2 d1 j1 hk
    have b2 : fwL (wsD ts 0) 0 ([], .kind) = fwL (wsD ts j1) j1 ([], .line) := b2
    have sl : ∀ x, stepS ([], .line) x = if x = nlS then some ([], .text) else none := fun x => rfl
    have st : ∀ x, stepS ([], .text) x = if x = etS then some ([], .done) else none := fun x => rfl
    by_cases c1 : tokS ts j1 = nlS
    · obtain ⟨y1, y2⟩ := nx_of E b1 (by rw [c1]; decide +kernel)
      rw [y1] at o2 o3
      have r3 := fw_yes b1 (show stepS ([], .line) (tokS ts j1) = some ([], .text) by rw [sl, if_pos c1])
      by_cases c2 : tokS ts (j1 + 1) = etS
      · have e0 := o3 c1 c2
        refine ⟨fun e h => (by rw [e0] at h; cases h), fun d j h => ?_⟩
        rw [e0] at h
        injection h with h2 h3
        rw [← h3]
        refine ⟨y2, c1, c2, ?_⟩
        rw [b2, r3]
        exact fw_yes y2 (by rw [st, if_pos c2])
      · have e0 := o2 c1 c2
        refine ⟨fun e h => ?_, fun d j h => (by rw [e0] at h; cases h)⟩
        rw [e0] at h
        injection h with h2
        rw [b2, r3, ← h2]
        exact fw_no y2 (by rw [st, if_neg c2])
    · have e0 := o1 c1
      refine ⟨fun e h => ?_, fun d j h => (by rw [e0] at h; cases h)⟩
      rw [e0] at h
      injection h with h2
      rw [b2, ← h2]
      exact fw_no b1 (by rw [sl, if_neg c1])
end K3

set_option Elab.async false
set_option linter.all false
set_option pp.maxSteps 700
set_option maxRecDepth 100000
set_option maxHeartbeats 4000000
namespace K3
open PySem PySem.Spec PyProof.Rows L2
open TL (tl)
/-! ### the words of a line -/
theorem tw_take (p : Nat → Bool) : ∀ r : List Nat, r.take (r.takeWhile p).length = r.takeWhile p ∧ r.drop (r.takeWhile p).length = r.dropWhile p
  | [] => ⟨rfl, rfl⟩
  | c :: r => by
    obtain ⟨a, b⟩ := tw_take p r
    cases h : p c with
    | true =>
      rw [List.takeWhile_cons, if_pos h, List.dropWhile_cons, if_pos h, List.length_cons, List.take_succ_cons, List.drop_succ_cons, a, b]
      exact ⟨rfl, rfl⟩
    | false =>
      rw [List.takeWhile_cons, if_neg (by rw [h]; exact Bool.false_ne_true), List.dropWhile_cons, if_neg (by rw [h]; exact Bool.false_ne_true)]
      exact ⟨rfl, rfl⟩
def wl : List Nat → List Str
  | [] => []
  | c :: r => if c = 32 then wl r else if isW c = true then ⟨(c :: r.takeWhile isW).toArray⟩ :: wl (r.dropWhile isW) else ⟨#[c]⟩ :: wl r
termination_by l => l.length
decreasing_by
  · simp
  · have := (List.dropWhile_sublist (l := r) isW).length_le
    simp only [List.length_cons]
    omega
  · simp
theorem wl_nil : wl [] = [] := by unfold wl; rfl
theorem wl_sp (l : List Nat) : wl (32 :: l) = wl l := by
  conv => lhs; unfold wl
  rw [if_pos rfl]
theorem wl_sign {c : Nat} (h1 : c ≠ 32) (h2 : isW c = false) (l : List Nat) : wl (c :: l) = ⟨#[c]⟩ :: wl l := by
  conv => lhs; unfold wl
  rw [if_neg h1, if_neg (by rw [h2]; exact Bool.false_ne_true)]
theorem wl_w {c : Nat} (h1 : c ≠ 32) (h2 : isW c = true) (l : List Nat) : wl (c :: l) = ⟨(c :: l.takeWhile isW).toArray⟩ :: wl (l.dropWhile isW) := by
  conv => lhs; unfold wl
  rw [if_neg h1, if_pos h2]
theorem isW_32 {c : Nat} (h : isW c = true) : c ≠ 32 := fun z => by
  rw [z, isW_sp] at h
  cases h
/-- no sign of a word stands ahead -/
def hN (l : List Nat) : Prop := ∀ c ∈ l.head?, isW c = false
theorem tw_app {w l : List Nat} (hw : ∀ c ∈ w, isW c = true) (hl : hN l) : (w ++ l).takeWhile isW = w ∧ (w ++ l).dropWhile isW = l := by
  induction w with
  | nil =>
    cases l with
    | nil => exact ⟨rfl, rfl⟩
    | cons c l =>
      have h := hl c rfl
      rw [List.nil_append, List.takeWhile_cons, if_neg (by rw [h]; exact Bool.false_ne_true), List.dropWhile_cons, if_neg (by rw [h]; exact Bool.false_ne_true)]
      exact ⟨rfl, rfl⟩
  | cons c w ih =>
    have h := hw c List.mem_cons_self
    obtain ⟨a, b⟩ := ih fun x hx => hw x (List.mem_cons_of_mem _ hx)
    rw [List.cons_append, List.takeWhile_cons, if_pos h, List.dropWhile_cons, if_pos h, a, b]
    exact ⟨rfl, rfl⟩
theorem str_tl (x : Str) : (⟨(tl x).toArray⟩ : Str) = x := Str.ext' (by show (tl x).toArray = x.cps; exact Array.toArray_toList)
theorem wl_word {x : Str} (hx : 1 ≤ x.length) (hw : ∀ c ∈ tl x, isW c = true) {l : List Nat} (hl : hN l) : wl (tl x ++ l) = x :: wl l := by
  have hz : (⟨(tl x).toArray⟩ : Str) = x := str_tl x
  have hlen := TL.len_tl x
  generalize tl x = t at *
  cases t with
  | nil =>
    rw [List.length_nil] at hlen
    omega
  | cons c w =>
    have h := hw c List.mem_cons_self
    obtain ⟨a, b⟩ := tw_app (w := w) (fun y hy => hw y (List.mem_cons_of_mem _ hy)) hl
    rw [List.cons_append, wl_w (isW_32 h) h, a, b, hz]
theorem go_wl (n : Int) (l : List Nat) (i : Nat) (acc : List Tok) (b : Nat) : (go n l i acc b).map (·.s) = if acc = [] ∧ wl (l.drop i) = [] then [] else acc.map (·.s) ++ wl (l.drop i) ++ [nlS] := by
  induction i, acc, b using go.induct (n := n) (l := l) with
  | case1 i acc b h hb ih =>
    rw [go_blank h hb, ih, drop_getD h, hb, wl_sp]
  | case2 i acc b h hb ih =>
    simp only [dite_eq_ite] at ih
    rw [go_tok h hb, ih, if_neg (fun z => by simp at z)]
    have e := drop_getD h
    have key : wl (l.drop i) = cut l i (tokEnd l i) :: wl (l.drop (tokEnd l i)) := by
      obtain ⟨t1, t2⟩ := tw_take isW (l.drop (i + 1))
      cases hw : isW (l.getD i 0) with
      | true =>
        have te : tokEnd l i = i + 1 + ((l.drop (i + 1)).takeWhile isW).length := by
          unfold tokEnd
          rw [if_pos hw, run_step h hw]
        have c1 : cut l i (tokEnd l i) = ⟨(l.getD i 0 :: (l.drop (i + 1)).takeWhile isW).toArray⟩ := by
          unfold cut
          rw [te, e, show i + 1 + ((l.drop (i + 1)).takeWhile isW).length - i = ((l.drop (i + 1)).takeWhile isW).length + 1 by omega, List.take_succ_cons, t1]
        have c2 : l.drop (tokEnd l i) = (l.drop (i + 1)).dropWhile isW := by
          rw [te, ← t2, List.drop_drop]
        rw [c1, c2, e, wl_w hb hw]
      | false =>
        have te : tokEnd l i = i + 1 := by
          unfold tokEnd
          rw [if_neg (by rw [hw]; exact Bool.false_ne_true)]
        have c1 : cut l i (tokEnd l i) = ⟨#[l.getD i 0]⟩ := by
          unfold cut
          rw [te, e, show i + 1 - i = 0 + 1 by omega, List.take_succ_cons]
          rfl
        rw [c1, te, e, wl_sign hb hw]
    rw [if_neg (show ¬ (acc = [] ∧ wl (l.drop i) = []) from fun z => by rw [key] at z; exact absurd z.2 (by simp)), key, List.map_append]
    simp
  | case3 i b h =>
    rw [go_end h, List.drop_eq_nil_of_le (by omega), wl_nil]
    simp
  | case4 i acc b h hne =>
    rw [go_end h, List.drop_eq_nil_of_le (by omega), wl_nil, if_neg hne, if_neg (fun z => hne z.1)]
    simp
theorem line_wl (n : Int) (l : List Nat) : (lineToks n l).map (·.s) = if wl l = [] then [] else wl l ++ [nlS] := by
  unfold lineToks
  rw [go_wl]
  simp
/-! ### the words of a kind's text -/
def sepJ : List (List Str) → List Str
  | [] => []
  | [x] => x
  | x :: y :: r => x ++ ("," : Str) :: sepJ (y :: r)
def fTk (f : Dt → List Str) : Dt → List Str
  | .tup [.str s, y] => s :: f y
  | _ => []
def tk2 (f : Dt → List Str) : List Dt → List Str
  | [_, .tup l] => ("record" : Str) :: ("(" : Str) :: (sepJ (l.map (fTk f)) ++ [(")" : Str)])
  | [_, .int i, z] => ("row" : Str) :: iTx i :: f z
  | _ => []
def tkN : Nat → Dt → List Str
  | _, .str s => [s]
  | n + 2, .tup l => tk2 (tkN (n + 1)) l
  | _, _ => []
theorem tk_str (n : Nat) (s : Str) : tkN n (.str s) = [s] := by
  cases n with
  | zero => rfl
  | succ n => cases n <;> rfl
theorem tk_two (n : Nat) (l : List Dt) : tkN (n + 2) (.tup l) = tk2 (tkN (n + 1)) l := rfl
theorem plain_W {s : Str} (h : plainS s = true) : 1 ≤ s.length ∧ ∀ c ∈ tl s, isW c = true := by
  unfold plainS at h
  rw [Bool.or_eq_true, beq_iff_eq, beq_iff_eq] at h
  rcases h with rfl | rfl <;> decide +kernel
theorem sgn_W {c : Nat} (h : isSgn c = true) : isW c = true := by
  have := sgn_lt h
  have all : ∀ c : Fin 128, isSgn c.val = true → isW c.val = true := by decide +kernel
  exact all ⟨c, by omega⟩ h
theorem name_W {s : Str} (h : nameS s = true) : 1 ≤ s.length ∧ ∀ c ∈ tl s, isW c = true := by
  refine ⟨(name_parts h).1, fun c hc => ?_⟩
  unfold nameS at h
  simp only [Bool.and_eq_true, decide_eq_true_eq] at h
  have h2 := h.2.2.1
  rw [List.all_eq_true] at h2
  exact sgn_W (h2 c hc)
theorem iTx_W : ∀ i : Fin 65, 1 ≤ (iTx ((i.val : Nat) : Int)).length ∧ ∀ c ∈ tl (iTx ((i.val : Nat) : Int)), isW c = true := by decide +kernel
theorem iTx_W' {i : Int} (h1 : 1 ≤ i) (h2 : i ≤ 64) : 1 ≤ (iTx i).length ∧ ∀ c ∈ tl (iTx i), isW c = true := by
  have := iTx_W ⟨i.toNat, by omega⟩
  rwa [show ((i.toNat : Nat) : Int) = i by omega] at this
theorem tl_sp : tl (" " : Str) = [32] := by decide +kernel
theorem hN_sp (l : List Nat) : hN (32 :: l) := fun c hc => by
  cases hc
  exact isW_sp
theorem join_cons2 (sep x y : Str) (r : List Str) : Txt.join sep (x :: y :: r) = (x ++ sep) ++ Txt.join sep (y :: r) := by
  show Builtin.Str.glued _ _ = _ ++ Builtin.Str.glued _ _
  rw [StrLaws.glued_eq_join, StrLaws.glued_eq_join]
  rfl
theorem join_one (sep x : Str) : Txt.join sep [x] = x := by
  show Builtin.Str.glued _ _ = _
  rw [StrLaws.glued_eq_join]
  rfl
theorem fields_wl {n : Nat} (ih : ∀ d, formed (n + 1) d = true → ∀ l, hN l → wl (tl (txtN (n + 1) d) ++ l) = tkN (n + 1) d ++ wl l) : ∀ (fs : List Dt), (∀ p ∈ fs, pairF (formed (n + 1)) p = true) → fs ≠ [] → ∀ l, hN l →
    wl (tl (Txt.join (", " : Str) (fs.map (fTx (txtN (n + 1))))) ++ l) = sepJ (fs.map (fTk (tkN (n + 1)))) ++ wl l
  | [], _, h, _, _ => absurd rfl h
  | [p], ha, _, l, hl => by
    obtain ⟨s, y, rfl, hs, hy⟩ := pairF_of (ha p List.mem_cons_self)
    obtain ⟨a, b⟩ := name_W hs
    rw [List.map_cons, List.map_nil, join_one, List.map_cons, List.map_nil]
    show wl (tl ((s ++ (" " : Str)) ++ txtN (n + 1) y) ++ l) = (s :: tkN (n + 1) y) ++ wl l
    rw [TL.tl_append, TL.tl_append, tl_sp]
    simp only [List.append_assoc, List.cons_append, List.nil_append]
    rw [wl_word a b (hN_sp _), wl_sp, ih y hy l hl]
  | p :: q :: r, ha, _, l, hl => by
    obtain ⟨s, y, rfl, hs, hy⟩ := pairF_of (ha p List.mem_cons_self)
    obtain ⟨a, b⟩ := name_W hs
    have rest := fields_wl ih (q :: r) (fun z hz => ha z (List.mem_cons_of_mem _ hz)) (by simp) l hl
    rw [List.map_cons, List.map_cons, join_cons2, List.map_cons, List.map_cons, ← List.map_cons, ← List.map_cons (f := fTk _)]
    show wl (tl ((((s ++ (" " : Str)) ++ txtN (n + 1) y) ++ (", " : Str)) ++ Txt.join (", " : Str) ((q :: r).map (fTx (txtN (n + 1))))) ++ l) = ((s :: tkN (n + 1) y) ++ ("," : Str) :: sepJ ((q :: r).map (fTk (tkN (n + 1))))) ++ wl l
    have e2 : tl (", " : Str) = [44, 32] := by decide +kernel
    have e3 : (⟨#[44]⟩ : Str) = ("," : Str) := by decide +kernel
    rw [TL.tl_append, TL.tl_append, TL.tl_append, TL.tl_append, tl_sp, e2]
    simp only [List.append_assoc, List.cons_append, List.nil_append]
    rw [wl_word a b (hN_sp _), wl_sp, ih y hy _ (fun c hc => by cases hc; decide +kernel), wl_sign (by decide) (by decide +kernel), wl_sp, rest, e3]
theorem txt_wl : ∀ (n : Nat) (d : Dt), formed (n + 1) d = true → ∀ l, hN l → wl (tl (txtN (n + 1) d) ++ l) = tkN (n + 1) d ++ wl l
  | n, d, h, l, hl => by
    rcases formed_cases h with ⟨s, rfl, hs⟩ | ⟨m, hm, ⟨fs, rfl, h1, h2, h3, _⟩ | ⟨i, z, rfl, h1, h2, h3⟩⟩
    · rw [txt_str, tk_str]
      obtain ⟨a, b⟩ := plain_W hs
      exact wl_word a b hl
    · obtain rfl : n = m + 1 := by omega
      rw [txt_two, tk_two]
      show wl (tl ((("record(" : Str) ++ Txt.join (", " : Str) (fs.map (fTx (txtN (m + 1))))) ++ (")" : Str)) ++ l) = (("record" : Str) :: ("(" : Str) :: (sepJ (fs.map (fTk (tkN (m + 1)))) ++ [(")" : Str)])) ++ wl l
      rw [TL.tl_append, TL.tl_append]
      simp only [List.append_assoc]
      have e1 : tl ("record(" : Str) = tl ("record" : Str) ++ [40] := by decide +kernel
      have e2 : tl (")" : Str) = [41] := by decide +kernel
      have e3 : (⟨#[40]⟩ : Str) = ("(" : Str) := by decide +kernel
      have e4 : (⟨#[41]⟩ : Str) = (")" : Str) := by decide +kernel
      have h41 : hN ([41] ++ l) := fun c hc => by
        cases hc
        decide +kernel
      have w1 : 1 ≤ ("record" : Str).length ∧ ∀ c ∈ tl ("record" : Str), isW c = true := by decide +kernel
      rw [e1, e2]
      simp only [List.append_assoc, List.cons_append, List.nil_append] at h41 ⊢
      rw [wl_word w1.1 w1.2 (fun c hc => by cases hc; decide +kernel), wl_sign (by decide) (by decide +kernel), fields_wl (fun d hd => txt_wl m d hd) fs h3 (fun z => by rw [z] at h1; exact absurd h1 (by decide)) _ h41, wl_sign (by decide) (by decide +kernel), e3, e4]
    · obtain rfl : n = m + 1 := by omega
      rw [txt_two, tk_two]
      show wl (tl (((("row " : Str) ++ iTx i) ++ (" " : Str)) ++ txtN (m + 1) z) ++ l) = (("row" : Str) :: iTx i :: tkN (m + 1) z) ++ wl l
      rw [TL.tl_append, TL.tl_append, TL.tl_append]
      simp only [List.append_assoc]
      have e1 : tl ("row " : Str) = tl ("row" : Str) ++ [32] := by decide +kernel
      obtain ⟨a, b⟩ := iTx_W' h1 h2
      have w1 : 1 ≤ ("row" : Str).length ∧ ∀ c ∈ tl ("row" : Str), isW c = true := by decide +kernel
      rw [e1, tl_sp]
      simp only [List.append_assoc, List.cons_append, List.nil_append]
      rw [wl_word w1.1 w1.2 (hN_sp _), wl_sp, wl_word a b (hN_sp _), wl_sp, txt_wl m z h3 l hl]
  termination_by n => n
  decreasing_by all_goals omega
end K3

set_option Elab.async false
set_option linter.all false
set_option pp.maxSteps 700
set_option maxRecDepth 100000
set_option maxHeartbeats 4000000
namespace K3
open PySem PySem.Spec PyProof.Rows L2
open TL (tl)
/-! ### what is read has these words, and these words are read so -/
theorem one_dig : ∀ v : Fin 10, tl (iTx ((v.val : Nat) : Int)) = [48 + v.val] := by decide +kernel
theorem two_dig : ∀ a b : Fin 10, 1 ≤ a.val → tl (iTx ((a.val * 10 + b.val : Nat) : Int)) = [48 + a.val, 48 + b.val] := by decide +kernel
theorem str_ext {x y : Str} (h : tl x = tl y) : x = y := by
  rw [← str_tl x, ← str_tl y, h]
theorem whole_iTx {x : Str} {hi : Int} (hh : hi ≤ 64) (h : wholeB x 1 hi = true) : iTx (wv x) = x := by
  unfold wholeB at h
  simp only [Bool.and_eq_true, decide_eq_true_iff, Bool.not_eq_true'] at h
  obtain ⟨h1, h2, h3, h4, h5, h6⟩ := h
  have h6 : wv x ≤ 64 := by omega
  clear hh
  have hl := TL.len_tl x
  have hx : ∀ y, tl y = tl x → y = x := fun y e => str_ext e
  have hz : (tl x).getD 0 0 = 48 → tl x = [48] := fun e => by
    rw [decide_eq_true e, Bool.true_and, Bool.not_eq_false', decide_eq_true_iff] at h4
    rw [h4]
    decide +kernel
  unfold wv at *
  unfold NumText.digitsVal at *
  rw [List.all_eq_true] at h3
  have h3 : ∀ c ∈ tl x, 48 ≤ c ∧ c ≤ 57 := fun c hc => (isDig_iff c).mp (h3 c hc)
  generalize tl x = t at *
  match t with
  | [] => rw [List.length_nil] at hl; omega
  | [a] =>
    have ha := h3 a (by simp)
    simp only [List.foldl_cons, List.foldl_nil] at *
    refine hx _ ?_
    have := one_dig ⟨a - 48, by omega⟩
    rw [show (0 * 10 + (a - 48) : Nat) = a - 48 by omega]
    rw [this]
    show [48 + (a - 48)] = [a]
    rw [show 48 + (a - 48) = a by omega]
  | [a, b] =>
    have ha := h3 a (by simp)
    have hb := h3 b (by simp)
    have a0 : a ≠ 48 := fun e => by
      have := hz e
      simp at this
    simp only [List.foldl_cons, List.foldl_nil] at *
    refine hx _ ?_
    have := two_dig ⟨a - 48, by omega⟩ ⟨b - 48, by omega⟩ (by show 1 ≤ a - 48; omega)
    rw [show ((0 * 10 + (a - 48)) * 10 + (b - 48) : Nat) = (a - 48) * 10 + (b - 48) by omega]
    rw [this]
    show [48 + (a - 48), 48 + (b - 48)] = [a, b]
    rw [show 48 + (a - 48) = a by omega, show 48 + (b - 48) = b by omega]
  | a :: b :: c :: r =>
    have ha := h3 a (by simp)
    have hb := h3 b (by simp)
    have hc := h3 c (by simp)
    have a0 : a ≠ 48 := fun e => by
      have := hz e
      simp at this
    exfalso
    have mono : ∀ (r : List Nat) (v : Nat), v ≤ r.foldl (fun acc c => acc * 10 + (c - 48)) v := by
      intro r
      induction r with
      | nil => intro v; exact Nat.le_refl _
      | cons d r ih =>
        intro v
        rw [List.foldl_cons]
        exact Nat.le_trans (by omega) (ih _)
    simp only [List.foldl_cons] at h6
    have := mono r (((0 * 10 + (a - 48)) * 10 + (b - 48)) * 10 + (c - 48))
    omega
def fT (n : Nat) (f : Str × Dt) : List Str := f.1 :: tkN n f.2
theorem fTk_pairs (n : Nat) (fs : List (Str × Dt)) : (fs.map pairD).map (fTk (tkN n)) = fs.map (fT n) := by
  rw [List.map_map]
  rfl
def Snd (ts : List Tok) (n : Nat) : Prop := ∀ (room : Int) (i : Nat) (d : Dt) (j : Nat), i < ts.length → 1 ≤ room → rdK ts n room i = .ok d j → j < ts.length ∧ wsD ts i = tkN n d ++ wsD ts j
theorem fields_words {ts : List Tok} (E : Ends ts) {n : Nat} (A : Snd ts n) : ∀ (k : Nat) (room : Int) (i : Nat) (fs : List (Str × Dt)) (d : Dt) (j : Nat), i < ts.length → 1 ≤ room → rdF ts n (rdK ts n) k room i fs = .ok d j →
    j < ts.length ∧ ∃ gs, gs ≠ [] ∧ d = .tup ((fs ++ gs).map pairD) ∧ wsD ts i = sepJ (gs.map (fT n)) ++ (")" : Str) :: wsD ts j
  | 0, room, i, fs, d, j, _, _, h => by
    unfold rdF at h
    cases h
  | k + 1, room, i, fs, d, j, hi, hr, h => by
    by_cases hn : nameS (tokS ts i) = true ∧ tokS ts i ∉ fs.map (·.1)
    rotate_left
    · rw [rdF_bad hn] at h
      cases h
    obtain ⟨x1, x2⟩ := nx_of E hi (name_ne hn.1)
    cases hk : rdK ts n room (nx ts i) with
    | bad e1 =>
      rw [rdF_bad2 hn hk] at h
      cases h
    | ok d1 j1 =>
      obtain ⟨o1, o2, o3⟩ := rdF_ok (n := n) (rk := rdK ts n) (k := k) (room := room) hn hk
      rw [x1] at hk
      obtain ⟨hj, e1⟩ := A room (i + 1) d1 j1 x2 hr hk
      have ei : wsD ts i = (tokS ts i :: tkN n d1) ++ wsD ts j1 := by
        rw [wsD_cons hi, e1]
        rfl
      by_cases c1 : tokS ts j1 = (")" : Str)
      · rw [o1 c1] at h
        injection h with h2 h3
        obtain ⟨y1, y2⟩ := nx_of E hj (by rw [c1]; decide +kernel)
        rw [y1] at h3
        refine ⟨by omega, [(tokS ts i, d1)], by simp, h2.symm, ?_⟩
        rw [ei, wsD_cons hj, c1, ← h3]
        rfl
      · by_cases c2 : tokS ts j1 = ("," : Str) ∧ fs.length + 1 < 6 ∧ 0 < room - wordsN n d1
        · rw [o2 c1 c2] at h
          obtain ⟨y1, y2⟩ := nx_of E hj (by rw [c2.1]; decide +kernel)
          rw [y1] at h
          obtain ⟨z1, gs, z2, z3, z4⟩ := fields_words E A k _ (j1 + 1) _ d j y2 (by omega) h
          refine ⟨z1, (tokS ts i, d1) :: gs, by simp, by rw [z3, List.append_assoc]; rfl, ?_⟩
          rw [ei, wsD_cons hj, c2.1, z4]
          obtain ⟨g, gs', rfl⟩ : ∃ g gs', gs = g :: gs' := by
            cases gs with
            | nil => exact absurd rfl z2
            | cons g gs' => exact ⟨g, gs', rfl⟩
          show (tokS ts i :: tkN n d1) ++ ("," : Str) :: (sepJ ((g :: gs').map (fT n)) ++ _) = (fT n (tokS ts i, d1) ++ ("," : Str) :: sepJ ((g :: gs').map (fT n))) ++ _
          simp [fT]
        · rw [o3 c1 c2] at h
          cases h
theorem kind_words {ts : List Tok} (E : Ends ts) : ∀ n, Snd ts (n + 1)
  | n => by
    intro room i d j hi hr h
    by_cases hp : plainS (tokS ts i) = true
    · obtain ⟨p1, p2, p3⟩ := plain_ne hp
      obtain ⟨x1, x2⟩ := nx_of E hi p3
      have e0 : rdK ts (n + 1) room i = .ok (.str (tokS ts i)) (nx ts i) := by
        unfold rdK
        rw [if_pos hp]
      rw [e0] at h
      injection h with h2 h3
      rw [← h2, ← h3, x1, tk_str, wsD_cons hi]
      exact ⟨x2, rfl⟩
    · have hpf : plainS (tokS ts i) = false := Bool.eq_false_iff.mpr hp
      by_cases hn : n = 0
      · rw [rdK_bad hpf (.inl hn)] at h
        cases h
      · obtain ⟨m, rfl⟩ : ∃ m, n = m + 1 := ⟨n - 1, by omega⟩
        have A := kind_words E m
        by_cases cr : tokS ts i = ("row" : Str)
        · obtain ⟨x1, x2⟩ := nx_of E hi (by rw [cr]; decide +kernel)
          cases hw : wholeB (tokS ts (nx ts i)) 1 (min 64 room) with
          | false =>
            rw [rdK_row0 hpf hn cr hw] at h
            cases h
          | true =>
            obtain ⟨o1, o2⟩ := rdK_row hpf hn cr (room := room) hw
            rw [x1] at o1 o2 hw
            obtain ⟨y1, y2⟩ := nx_of E x2 (whole_ne hw)
            rw [y1] at o1 o2
            obtain ⟨a, b⟩ := wholeB_iff hw
            have ei := whole_iTx (by omega) hw
            have q1 : 1 ≤ room.fdiv (wv (tokS ts (i + 1))) := by
              rw [Int.fdiv_eq_ediv_of_nonneg _ (by omega)]
              exact (Int.le_ediv_iff_mul_le (by omega)).mpr (by omega)
            cases hk : rdK ts (m + 1) (room.fdiv (wv (tokS ts (i + 1)))) (i + 1 + 1) with
            | bad e1 =>
              rw [o2 e1 hk] at h
              cases h
            | ok d1 j1 =>
              rw [o1 d1 j1 hk] at h
              injection h with h2 h3
              obtain ⟨b1, b2⟩ := A _ _ d1 j1 y2 q1 hk
              rw [← h2, ← h3, tk_two, wsD_cons hi, wsD_cons x2, cr, b2]
              refine ⟨b1, ?_⟩
              show _ = (("row" : Str) :: iTx (wv (tokS ts (i + 1))) :: tkN (m + 1) d1) ++ _
              rw [ei]
              rfl
        · by_cases cd : tokS ts i = ("record" : Str)
          · obtain ⟨x1, x2⟩ := nx_of E hi (by rw [cd]; decide +kernel)
            obtain ⟨o1, o2⟩ := rdK_rec hpf hn cd (room := room)
            rw [x1] at o1 o2
            by_cases cp : tokS ts (i + 1) = ("(" : Str)
            · obtain ⟨y1, y2⟩ := nx_of E x2 (by rw [cp]; decide +kernel)
              have ef : rdFF ts (m + 1) room (i + 1) = rdF ts (m + 1) (rdK ts (m + 1)) 6 room (i + 1 + 1) [] := by
                unfold rdFF
                rw [if_pos cp, y1]
              cases hk : rdF ts (m + 1) (rdK ts (m + 1)) 6 room (i + 1 + 1) [] with
              | bad e1 =>
                rw [o2 e1 (ef.trans hk)] at h
                cases h
              | ok d1 j1 =>
                rw [o1 d1 j1 (ef.trans hk)] at h
                injection h with h2 h3
                obtain ⟨b1, gs, b2, rfl, b4⟩ := fields_words E A 6 room (i + 1 + 1) [] d1 j1 y2 hr hk
                rw [← h2, ← h3, tk_two, wsD_cons hi, wsD_cons x2, cd, cp, b4]
                refine ⟨b1, ?_⟩
                show _ = (("record" : Str) :: ("(" : Str) :: (sepJ ((([] ++ gs).map pairD).map (fTk (tkN (m + 1)))) ++ [(")" : Str)])) ++ _
                rw [fTk_pairs]
                simp
            · have ef : rdFF ts (m + 1) room (i + 1) = .bad (i + 1) := by
                unfold rdFF
                rw [if_neg cp]
              rw [o2 _ ef] at h
              cases h
          · rw [rdK_bad (n := m + 1) hpf (.inr ⟨cr, cd⟩)] at h
            cases h
end K3

set_option Elab.async false
set_option linter.all false
set_option pp.maxSteps 700
set_option maxRecDepth 100000
set_option maxHeartbeats 4000000
namespace K3
open PySem PySem.Spec PyProof.Rows L2
open TL (tl)
theorem ws_cons {ts : List Tok} {i : Nat} {x : Str} {r : List Str} (h : wsD ts i = x :: r) : i < ts.length ∧ tokS ts i = x ∧ wsD ts (i + 1) = r := by
  have hi : i < ts.length := by
    rcases Nat.lt_or_ge i ts.length with h1 | h1
    · exact h1
    · unfold wsD at h
      rw [List.drop_eq_nil_of_le h1] at h
      cases h
  rw [wsD_cons hi] at h
  injection h with h1 h2
  exact ⟨hi, h1, h2⟩
theorem ws_nx {ts : List Tok} {i : Nat} {r : List Str} (h : wsD ts (i + 1) = r) (hr : r ≠ []) : nx ts i = i + 1 ∧ i + 1 < ts.length := by
  have hi : i + 1 < ts.length := by
    rcases Nat.lt_or_ge (i + 1) ts.length with h1 | h1
    · exact h1
    · unfold wsD at h
      rw [List.drop_eq_nil_of_le h1] at h
      exact absurd h.symm hr
  unfold nx
  omega
theorem ws_app {ts : List Tok} : ∀ (a : List Str) {i : Nat} {r : List Str}, wsD ts i = a ++ r → wsD ts (i + a.length) = r
  | [], i, r, h => h
  | x :: a, i, r, h => by
    obtain ⟨_, _, h3⟩ := ws_cons (r := a ++ r) h
    have := ws_app a h3
    rw [List.length_cons, show i + (a.length + 1) = i + 1 + a.length by omega]
    exact this
def Rdn (ts : List Tok) (n : Nat) : Prop := ∀ (room : Int) (i : Nat) (d : Dt) (r : List Str), formed n d = true → wordsN n d ≤ room → wsD ts i = tkN n d ++ r → r ≠ [] → rdK ts n room i = .ok d (i + (tkN n d).length)
theorem fields_read {ts : List Tok} {n : Nat} (A : Rdn ts n) : ∀ (gs : List (Str × Dt)) (k : Nat) (room : Int) (i : Nat) (fs : List (Str × Dt)) (r : List Str), gs ≠ [] → fs.length + gs.length ≤ 6 → fs.length + k = 6 → (∀ g ∈ gs, nameS g.1 = true ∧ formed n g.2 = true) → ((fs ++ gs).map (·.1)).Nodup →
    (gs.map (fun g => wordsN n g.2)).sum ≤ room → wsD ts i = sepJ (gs.map (fT n)) ++ (")" : Str) :: r → r ≠ [] → rdF ts n (rdK ts n) k room i fs = .ok (.tup ((fs ++ gs).map pairD)) (i + (sepJ (gs.map (fT n))).length + 1)
  | [], _, _, _, _, _, h, _, _, _, _, _, _, _ => absurd rfl h
  | g :: gs, 0, room, i, fs, r, _, hl, hk, _, _, _, _, _ => by
    rw [List.length_cons] at hl
    omega
  | g :: gs, k + 1, room, i, fs, r, _, hl, hk, hg, hd, hw, hs, hr => by
    obtain ⟨g1, g2⟩ := hg g List.mem_cons_self
    have wg := (words_bound n g.2 g2).1
    have hsum : 0 ≤ (gs.map (fun g => wordsN n g.2)).sum := by
      have : ∀ l : List (Str × Dt), (∀ g ∈ l, nameS g.1 = true ∧ formed n g.2 = true) → 0 ≤ (l.map (fun g => wordsN n g.2)).sum := by
        intro l
        induction l with
        | nil => intro _; simp
        | cons a l ih =>
          intro h
          have h1 := (words_bound n a.2 (h a List.mem_cons_self).2).1
          have h2 := ih fun z hz => h z (List.mem_cons_of_mem _ hz)
          rw [List.map_cons, List.sum_cons]
          omega
      exact this gs fun z hz => hg z (List.mem_cons_of_mem _ hz)
    rw [List.map_cons, List.sum_cons] at hw
    have hnot : g.1 ∉ fs.map (·.1) := by
      rw [List.map_append, List.nodup_append] at hd
      intro hm
      exact hd.2.2 _ hm g.1 (by rw [List.map_cons]; exact List.mem_cons_self) rfl
    -- the words behind the name
    obtain ⟨rest, hrest⟩ : ∃ rest, wsD ts i = g.1 :: (tkN n g.2 ++ rest) ∧ rest ≠ [] ∧ ((gs = [] ∧ rest = (")" : Str) :: r) ∨ (gs ≠ [] ∧ rest = ("," : Str) :: (sepJ (gs.map (fT n)) ++ (")" : Str) :: r))) := by
      cases gs with
      | nil => exact ⟨_, by rw [hs]; rfl, by simp, .inl ⟨rfl, rfl⟩⟩
      | cons g' gs' =>
        refine ⟨_, ?_, by simp, .inr ⟨by simp, rfl⟩⟩
        rw [hs]
        show (fT n g ++ ("," : Str) :: sepJ ((g' :: gs').map (fT n))) ++ _ = _
        simp [fT]
    obtain ⟨h1, rne, hcase⟩ := hrest
    obtain ⟨hi, e1, h2⟩ := ws_cons h1
    obtain ⟨x1, x2⟩ := ws_nx h2 (by intro z; exact rne (List.append_eq_nil_iff.mp z).2)
    have hn : nameS (tokS ts i) = true ∧ tokS ts i ∉ fs.map (·.1) := by
      rw [e1]
      exact ⟨g1, hnot⟩
    have hk1 := A room (i + 1) g.2 rest g2 (by omega) h2 rne
    have h3 := ws_app _ h2
    obtain ⟨o1, o2, o3⟩ := rdF_ok (n := n) (rk := rdK ts n) (k := k) (room := room) hn (by rw [x1]; exact hk1)
    rw [e1] at o1 o2
    rcases hcase with ⟨rfl, rfl⟩ | ⟨gne, rfl⟩
    · obtain ⟨_, e2, h4⟩ := ws_cons h3
      obtain ⟨y1, _⟩ := ws_nx h4 hr
      rw [o1 e2, y1]
      show _ = Par.ok _ (i + (g.1 :: tkN n g.2).length + 1)
      rw [List.length_cons]
      congr 1
      omega
    · obtain ⟨_, e2, h4⟩ := ws_cons h3
      obtain ⟨y1, _⟩ := ws_nx h4 (by simp)
      have nc : tokS ts (i + 1 + (tkN n g.2).length) ≠ (")" : Str) := by rw [e2]; decide +kernel
      have gl : 1 ≤ gs.length := by
        cases gs with
        | nil => exact absurd rfl gne
        | cons => simp
      rw [List.length_cons] at hl
      have hsum1 : 1 ≤ (gs.map (fun g => wordsN n g.2)).sum := by
        cases gs with
        | nil => exact absurd rfl gne
        | cons a l =>
          have h1 := (words_bound n a.2 (hg a (by simp)).2).1
          have h2 : 0 ≤ (l.map (fun g => wordsN n g.2)).sum := by
            have : ∀ l : List (Str × Dt), (∀ g ∈ l, formed n g.2 = true) → 0 ≤ (l.map (fun g => wordsN n g.2)).sum := by
              intro l
              induction l with
              | nil => intro _; simp
              | cons a l ih =>
                intro h
                have h1 := (words_bound n a.2 (h a List.mem_cons_self)).1
                have h2 := ih fun z hz => h z (List.mem_cons_of_mem _ hz)
                rw [List.map_cons, List.sum_cons]
                omega
            exact this l fun z hz => (hg z (by simp [hz])).2
          rw [List.map_cons, List.sum_cons]
          omega
      rw [o2 nc ⟨e2, by omega, by omega⟩, y1]
      have ih := fields_read A gs k (room - wordsN n g.2) (i + 1 + (tkN n g.2).length + 1) (fs ++ [(g.1, g.2)]) r gne (by rw [List.length_append, List.length_singleton]; omega) (by rw [List.length_append, List.length_singleton]; omega) (fun z hz => hg z (List.mem_cons_of_mem _ hz)) (by rw [List.append_assoc]; exact hd) (by omega) h4 hr
      rw [ih, List.append_assoc]
      obtain ⟨g', gs', rfl⟩ : ∃ g' gs', gs = g' :: gs' := by
        cases gs with
        | nil => exact absurd rfl gne
        | cons g' gs' => exact ⟨g', gs', rfl⟩
      show _ = Par.ok _ (i + (fT n g ++ ("," : Str) :: sepJ ((g' :: gs').map (fT n))).length + 1)
      rw [List.length_append, List.length_cons]
      show _ = Par.ok _ (i + ((tkN n g.2).length + 1 + _) + 1)
      congr 1
      omega
theorem pairs_of : ∀ {n : Nat} {l : List Dt}, (∀ p ∈ l, pairF (formed n) p = true) → ∃ fs : List (Str × Dt), l = fs.map pairD ∧ ∀ f ∈ fs, nameS f.1 = true ∧ formed n f.2 = true
  | n, [], _ => ⟨[], rfl, fun f hf => by cases hf⟩
  | n, p :: l, h => by
    obtain ⟨fs, rfl, h2⟩ := pairs_of fun q hq => h q (List.mem_cons_of_mem _ hq)
    obtain ⟨s, y, rfl, hs, hy⟩ := pairF_of (h p List.mem_cons_self)
    refine ⟨(s, y) :: fs, rfl, fun f hf => ?_⟩
    rcases List.mem_cons.mp hf with rfl | hf
    · exact ⟨hs, hy⟩
    · exact h2 f hf
theorem iTx_whole : ∀ i : Fin 65, 1 ≤ i.val → wholeB (iTx ((i.val : Nat) : Int)) 1 64 = true ∧ wv (iTx ((i.val : Nat) : Int)) = ((i.val : Nat) : Int) := by decide +kernel
theorem iTx_whole' {i : Int} (h1 : 1 ≤ i) (h2 : i ≤ 64) : wholeB (iTx i) 1 64 = true ∧ wv (iTx i) = i := by
  have := iTx_whole ⟨i.toNat, by omega⟩ (by show 1 ≤ i.toNat; omega)
  rwa [show ((i.toNat : Nat) : Int) = i by omega] at this
theorem kind_read (ts : List Tok) : ∀ n, Rdn ts (n + 1)
  | n => by
    intro room i d r hf hw hs hr
    rcases formed_cases hf with ⟨s, rfl, hp⟩ | ⟨m, hm, ⟨l, rfl, h1, h2, h3, h4⟩ | ⟨v, z, rfl, h1, h2, h3⟩⟩
    · rw [tk_str] at hs ⊢
      obtain ⟨hi, e1, h2⟩ := ws_cons hs
      obtain ⟨x1, x2⟩ := ws_nx h2 hr
      unfold rdK
      rw [e1, if_pos hp, x1]
      rfl
    · obtain rfl : n = m + 1 := by omega
      have A := kind_read ts m
      obtain ⟨fs, rfl, hfs⟩ := pairs_of h3
      rw [tk_two] at hs ⊢
      have hs : wsD ts i = ("record" : Str) :: ("(" : Str) :: ((sepJ (fs.map (fT (m + 1))) ++ [(")" : Str)]) ++ r) := by
        rw [hs]
        show (("record" : Str) :: ("(" : Str) :: (sepJ ((fs.map pairD).map (fTk (tkN (m + 1)))) ++ [(")" : Str)])) ++ r = _
        rw [fTk_pairs]
        rfl
      obtain ⟨hi, e1, s2⟩ := ws_cons hs
      obtain ⟨x1, x2⟩ := ws_nx s2 (by simp)
      obtain ⟨_, e2, s3⟩ := ws_cons s2
      obtain ⟨y1, y2⟩ := ws_nx s3 (by simp)
      have hpf : plainS (tokS ts i) = false := by rw [e1]; decide +kernel
      obtain ⟨o1, _⟩ := rdK_rec hpf (Nat.succ_ne_zero m) e1 (room := room)
      rw [x1] at o1
      have hn : (fs.map (·.1)).Nodup := by
        have e : (fs.map pairD).map nmOf = fs.map (·.1) := by
          rw [List.map_map]
          rfl
        rw [← e]
        exact h4
      rw [List.length_map] at h1 h2
      have hw' : (fs.map (fun g => wordsN (m + 1) g.2)).sum ≤ room := by
        rw [words_two] at hw
        have hw : sumW (wordsN (m + 1)) (.tup (fs.map pairD)) ≤ room := hw
        rwa [sumW_pairs] at hw
      have q := fields_read A fs 6 room (i + 1 + 1) [] r (fun z => by rw [z] at h1; exact absurd h1 (by decide)) (by rw [List.length_nil]; omega) rfl hfs hn hw' (by rw [s3, List.append_assoc]; rfl) hr
      have ef : rdFF ts (m + 1) room (i + 1) = rdF ts (m + 1) (rdK ts (m + 1)) 6 room (i + 1 + 1) [] := by
        unfold rdFF
        rw [if_pos e2, y1]
      rw [o1 _ _ (ef.trans q)]
      show Par.ok _ _ = Par.ok _ (i + (("record" : Str) :: ("(" : Str) :: (sepJ ((fs.map pairD).map (fTk (tkN (m + 1)))) ++ [(")" : Str)])).length)
      rw [fTk_pairs, List.length_cons, List.length_cons, List.length_append, List.length_singleton]
      congr 1
      omega
    · obtain rfl : n = m + 1 := by omega
      have A := kind_read ts m
      rw [tk_two] at hs ⊢
      have hs : wsD ts i = ("row" : Str) :: iTx v :: (tkN (m + 1) z ++ r) := hs
      obtain ⟨hi, e1, s2⟩ := ws_cons hs
      obtain ⟨x1, x2⟩ := ws_nx s2 (by simp)
      obtain ⟨_, e2, s3⟩ := ws_cons s2
      obtain ⟨y1, y2⟩ := ws_nx s3 (fun z' => hr (List.append_eq_nil_iff.mp z').2)
      obtain ⟨w1, w2⟩ := iTx_whole' h1 h2
      have wz := (words_bound (m + 1) z h3).1
      have hw : v * wordsN (m + 1) z ≤ room := by
        rw [words_two] at hw
        exact hw
      have hvr : v ≤ room := by
        have := Int.mul_le_mul (Int.le_refl v) wz (by omega) (by omega)
        omega
      have hpf : plainS (tokS ts i) = false := by rw [e1]; decide +kernel
      obtain ⟨o1, _⟩ := rdK_row hpf (Nat.succ_ne_zero m) e1 (room := room) (by rw [x1, e2, whole_min, w1, w2, decide_eq_true hvr]; rfl)
      rw [x1, e2, w2, y1] at o1
      have q := A (room.fdiv v) (i + 1 + 1) z r h3 (by rw [Int.fdiv_eq_ediv_of_nonneg _ (by omega), Int.le_ediv_iff_mul_le (by omega), Int.mul_comm]; exact hw) s3 hr
      rw [o1 _ _ q]
      show Par.ok _ _ = Par.ok _ (i + (("row" : Str) :: iTx v :: tkN (m + 1) z).length)
      rw [List.length_cons, List.length_cons]
      congr 1
      omega
/-- a row of tokens with just a kind's words, at the begin of a line -/
theorem koE_read {ts : List Tok} {t : Tok} {d : Dt} (ht : ts[0]? = some t) (hi : t.i = some 0) (hk : kindB d = true) (hs : ts.map (·.s) = tkN 4 d ++ [nlS, etS]) : ∃ j, koE ts = .ok d j := by
  unfold kindB at hk
  rw [Bool.and_eq_true, decide_eq_true_iff] at hk
  have h0 : wsD ts 0 = tkN 4 d ++ [nlS, etS] := by
    unfold wsD
    exact hs
  have q := kind_read ts 3 400 0 d [nlS, etS] hk.1 hk.2 h0 (by simp)
  obtain ⟨_, _, o3⟩ := koE_ok ht hi q
  have h1 := ws_app _ h0
  obtain ⟨_, e1, h2⟩ := ws_cons h1
  obtain ⟨y1, _⟩ := ws_nx h2 (by simp)
  obtain ⟨_, e2, _⟩ := ws_cons h2
  exact ⟨_, o3 e1 (by rw [y1]; exact e2)⟩
end K3

set_option Elab.async false
set_option linter.all false
set_option pp.maxSteps 700
set_option maxRecDepth 100000
set_option maxHeartbeats 4000000
namespace K3
open PySem PySem.Spec PyProof.Rows L2
open TL (tl)
/-! ### indents of a text's tokens -/
def NoInd (l : List Tok) : Prop := ∀ k t, l[k + 1]? = some t → t.i = none
def EndNl (l : List Tok) : Prop := l = [] ∨ ∃ a t, l = a ++ [t] ∧ t.s = nlS
theorem noind_snoc {l : List Tok} {t : Tok} (h : NoInd l) (ht : l ≠ [] → t.i = none) : NoInd (l ++ [t]) := fun k u hu => by
  rcases Nat.lt_or_ge (k + 1) l.length with h1 | h1
  · rw [List.getElem?_append_left h1] at hu
    exact h k u hu
  · rw [List.getElem?_append_right h1] at hu
    cases e : k + 1 - l.length with
    | zero =>
      rw [e] at hu
      obtain rfl := Option.some.inj hu
      refine ht fun z => ?_
      rw [z] at e h1
      rw [List.length_nil] at e
      omega
    | succ m =>
      rw [e] at hu
      simp at hu
theorem go_ind (n : Int) (l : List Nat) (i : Nat) (acc : List Tok) (b : Nat) (ha : NoInd acc) : NoInd (go n l i acc b) ∧ EndNl (go n l i acc b) ∧ ((∀ t ∈ acc, t.s ≠ etS) → ∀ t ∈ go n l i acc b, t.s ≠ etS) := by
  induction i, acc, b using go.induct (n := n) (l := l) with
  | case1 i acc b h hb ih =>
    rw [go_blank h hb]
    exact ih ha
  | case2 i acc b h hb ih =>
    simp only [dite_eq_ite] at ih
    rw [go_tok h hb]
    obtain ⟨a1, a2, a3⟩ := ih (noind_snoc ha fun z => by show (if acc = [] then some ((i : Nat) : Int) else none) = none; rw [if_neg z])
    refine ⟨a1, a2, fun hne => a3 fun t ht => ?_⟩
    rcases List.mem_append.mp ht with ht | ht
    · exact hne t ht
    · rw [List.mem_singleton.mp ht]
      intro z
      have hg := tokEnd_gt h
      have e : (cut l i (tokEnd l i)).length = ((l.drop i).take (tokEnd l i - i)).length := rfl
      have z' : cut l i (tokEnd l i) = etS := z
      rw [z', List.length_take, List.length_drop] at e
      have : etS.length = 0 := by decide +kernel
      omega
  | case3 i b h =>
    rw [go_end h, if_pos rfl]
    exact ⟨fun k t ht => by simp at ht, .inl rfl, fun _ t ht => by cases ht⟩
  | case4 i acc b h hne =>
    rw [go_end h, if_neg hne]
    refine ⟨noind_snoc ha fun _ => rfl, .inr ⟨_, _, rfl, rfl⟩, fun ha t ht => ?_⟩
    rcases List.mem_append.mp ht with ht | ht
    · exact ha t ht
    · rw [List.mem_singleton.mp ht]
      show nlS ≠ etS
      decide +kernel
def IndOk (l : List Tok) : Prop := ∀ k t t', l[k]? = some t → l[k + 1]? = some t' → t'.i ≠ none → t.s = nlS
theorem indok_app {a b : List Tok} (h1 : NoInd a) (h2 : EndNl a) (h3 : IndOk b) : IndOk (a ++ b) := fun k t t' ht ht' hi => by
  rcases Nat.lt_or_ge (k + 1) a.length with h | h
  · rw [List.getElem?_append_left h] at ht'
    exact absurd (h1 k t' ht') hi
  · rw [List.getElem?_append_right h] at ht'
    rcases Nat.lt_or_ge k a.length with h' | h'
    · rw [List.getElem?_append_left h'] at ht
      rcases h2 with rfl | ⟨c, u, rfl, hu⟩
      · simp at h'
      · rw [List.length_append, List.length_singleton] at h h'
        have hk : k = c.length := by omega
        rw [hk, List.getElem?_append_right (Nat.le_refl _), Nat.sub_self] at ht
        obtain rfl := Option.some.inj ht
        exact hu
    · rw [List.getElem?_append_right h'] at ht
      rw [show k + 1 - a.length = (k - a.length) + 1 by omega] at ht'
      exact h3 _ t t' ht ht' hi
theorem rows_ind (last : Tok) (hl : last.i = none) : ∀ (rs : List Str) (i : Nat), IndOk (rowsToks i rs ++ [last])
  | [], i => fun k t t' ht ht' hi => by
    unfold rowsToks at ht'
    simp at ht'
  | r :: rs, i => by
    unfold rowsToks
    rw [List.append_assoc]
    obtain ⟨a1, a2, _⟩ := go_ind ((i : Int) + 1) (tl (bodyOf r)) 0 [] 0 (fun k t ht => by simp at ht)
    exact indok_app a1 a2 (rows_ind last hl rs (i + 1))
theorem rows_net : ∀ (rs : List Str) (i : Nat), ∀ t ∈ rowsToks i rs, t.s ≠ etS
  | [], i, t, ht => by cases ht
  | r :: rs, i, t, ht => by
    unfold rowsToks at ht
    rcases List.mem_append.mp ht with ht | ht
    · exact (go_ind ((i : Int) + 1) (tl (bodyOf r)) 0 [] 0 (fun k t ht => by simp at ht)).2.2 (fun t ht => by cases ht) t ht
    · exact rows_net rs (i + 1) t ht
theorem all_ends (z : Str) : Ends (allToks z) := by
  refine ⟨all_pos z, ?_⟩
  unfold allToks
  rw [List.length_append, List.length_singleton]
  rw [Nat.add_sub_cancel]
  refine tokS_of (t := ⟨((Txt.split z nlS).length : Int) + 1, 1, none, etS⟩) ?_
  rw [List.getElem?_append_right (Nat.le_refl _), Nat.sub_self]
  rfl
theorem all_et {z : Str} {k : Nat} (hk : k < (allToks z).length) (h : tokS (allToks z) k = etS) : k + 1 = (allToks z).length := by
  unfold allToks at *
  rw [List.length_append, List.length_singleton] at *
  rcases Nat.lt_or_ge k (rowsToks 0 (Txt.split z nlS)).length with h1 | h1
  · rw [tokS_of (by rw [List.getElem?_append_left h1]; exact List.getElem?_eq_getElem h1)] at h
    exact absurd h (rows_net _ 0 _ (List.getElem_mem h1))
  · omega
/-- indents and words -/
def rowsIW (ts : List Tok) : List (Option Int × Str) := ts.map fun t => (t.i, t.s)
def due (ws : List Str) : List (Option Int × Str) := match ws with
  | [] => []
  | w :: r => (some 0, w) :: r.map fun x => (none, x)
theorem due_of {ts : List Tok} {ws : List Str} (hw : ts.map Tok.s = ws ++ [nlS, etS]) (hn : ∀ x ∈ ws, x ≠ nlS) (h0 : ∀ t, ts[0]? = some t → t.i = some 0) (hi : IndOk ts) (hl : ∀ t, ts[ws.length + 1]? = some t → t.i = none) : rowsIW ts = due (ws ++ [nlS, etS]) := by
  refine List.ext_getElem? fun k => ?_
  have hk : (rowsIW ts)[k]? = (ts[k]?).map fun t => (t.i, t.s) := List.getElem?_map ..
  have hs : ∀ (j : Nat) (t : Tok), ts[j]? = some t → (ws ++ [nlS, etS])[j]? = some t.s := fun j t ht => by
    rw [← hw, List.getElem?_map, ht]
    rfl
  have hlen : ts.length = ws.length + 2 := by
    have := congrArg List.length hw
    rw [List.length_map, List.length_append] at this
    exact this
  have dk : ∀ (x : Str) (j : Nat), (ws ++ [nlS, etS])[j]? = some x → (due (ws ++ [nlS, etS]))[j]? = some (if j = 0 then some 0 else none, x) := by
    intro x j hx
    generalize ws ++ [nlS, etS] = l at *
    cases l with
    | nil => simp at hx
    | cons w r =>
      cases j with
      | zero =>
        obtain rfl := Option.some.inj hx
        rfl
      | succ j =>
        have hx : r[j]? = some x := hx
        show (r.map fun x => ((none : Option Int), x))[j]? = _
        rw [List.getElem?_map, hx]
        rfl
  rw [hk]
  cases ht : ts[k]? with
  | none =>
    have h1 : ts.length ≤ k := List.getElem?_eq_none_iff.mp ht
    symm
    show (due (ws ++ [nlS, etS]))[k]? = none
    rw [List.getElem?_eq_none_iff]
    have : (due (ws ++ [nlS, etS])).length = ws.length + 2 := by
      have e : (ws ++ [nlS, etS]).length = ws.length + 2 := List.length_append ..
      generalize ws ++ [nlS, etS] = l at *
      cases l with
      | nil => simp at e
      | cons w r =>
        show (r.map _).length + 1 = _
        rw [List.length_map]
        exact e
    omega
  | some t =>
    rw [dk _ _ (hs k t ht)]
    show some (t.i, t.s) = _
    cases k with
    | zero => rw [h0 t ht]; rfl
    | succ k =>
      have hk1 : k + 1 < ts.length := (List.getElem?_eq_some_iff.mp ht).1
      have hp : ts[k]? = some (ts[k]'(by omega)) := List.getElem?_eq_getElem (by omega)
      have : t.i = none := by
        rcases Nat.lt_or_ge k ws.length with h1 | h1
        · cases hti : t.i with
          | none => rfl
          | some z =>
            have e := hi k _ t hp ht (by rw [hti]; simp)
            have e2 := hs k _ hp
            rw [List.getElem?_append_left h1] at e2
            exact absurd e (hn _ (List.mem_of_getElem? e2))
        · have hke : k = ws.length := by omega
          rw [hke] at ht
          exact hl t ht
      rw [this]
      rfl
end K3

set_option Elab.async false
set_option linter.all false
set_option pp.maxSteps 700
set_option maxRecDepth 100000
set_option maxHeartbeats 4000000
namespace K3
open PySem PySem.Spec PyProof.Rows L2
open TL (tl)
theorem sep_mem {Pp : Str → Prop} (hc : Pp ("," : Str)) : ∀ (l : List (List Str)), (∀ a ∈ l, ∀ x ∈ a, Pp x) → ∀ x ∈ sepJ l, Pp x
  | [], _, x, hx => by cases hx
  | [a], h, x, hx => h a List.mem_cons_self x hx
  | a :: b :: r, h, x, hx => by
    rcases List.mem_append.mp hx with hx | hx
    · exact h a List.mem_cons_self x hx
    · rcases List.mem_cons.mp hx with rfl | hx
      · exact hc
      · exact sep_mem hc (b :: r) (fun z hz => h z (List.mem_cons_of_mem _ hz)) x hx
theorem tk_ne : ∀ (n : Nat) (d : Dt), formed (n + 1) d = true → ∀ x ∈ tkN (n + 1) d, x ≠ nlS ∧ x.length ≤ 8
  | n, d, h => by
    rcases formed_cases h with ⟨s, rfl, hs⟩ | ⟨m, hm, ⟨l, rfl, h1, h2, h3, _⟩ | ⟨i, z, rfl, h1, h2, h3⟩⟩
    · rw [tk_str]
      intro x hx
      rw [List.mem_singleton.mp hx]
      unfold plainS at hs
      rw [Bool.or_eq_true, beq_iff_eq, beq_iff_eq] at hs
      rcases hs with rfl | rfl <;> decide +kernel
    · obtain rfl : n = m + 1 := by omega
      rw [tk_two]
      intro x hx
      have hx : x ∈ ("record" : Str) :: ("(" : Str) :: (sepJ (l.map (fTk (tkN (m + 1)))) ++ [(")" : Str)]) := hx
      rcases List.mem_cons.mp hx with rfl | hx
      · decide +kernel
      · rcases List.mem_cons.mp hx with rfl | hx
        · decide +kernel
        · rcases List.mem_append.mp hx with hx | hx
          · refine sep_mem (Pp := fun x => x ≠ nlS ∧ x.length ≤ 8) (by decide +kernel) _ (fun a ha => ?_) x hx
            obtain ⟨p, hp, rfl⟩ := List.mem_map.mp ha
            obtain ⟨s, y, rfl, hs, hy⟩ := pairF_of (h3 p hp)
            intro x hx
            rcases List.mem_cons.mp hx with rfl | hx
            · refine ⟨fun z => ?_, (name_parts hs).2.1⟩
              rw [z] at hs
              exact absurd hs (by decide +kernel)
            · exact tk_ne m y hy x hx
          · rw [List.mem_singleton.mp hx]
            decide +kernel
    · obtain rfl : n = m + 1 := by omega
      rw [tk_two]
      intro x hx
      have hx : x ∈ ("row" : Str) :: iTx i :: tkN (m + 1) z := hx
      rcases List.mem_cons.mp hx with rfl | hx
      · decide +kernel
      · rcases List.mem_cons.mp hx with rfl | hx
        · have := iTx_len' h1 h2
          refine ⟨fun z => ?_, by omega⟩
          have a := (iTx_W' h1 h2).2
          rw [z] at a
          exact absurd (a 10 (by decide +kernel)) (by decide +kernel)
        · exact tk_ne m z h3 x hx
  termination_by n => n
  decreasing_by all_goals omega
/-- what is read from a text: a kind, whose words are all of its tokens -/
theorem read_due {z : Str} {d : Dt} {j : Nat} (h : koE (allToks z) = .ok d j) : kindB d = true ∧ pur d = true ∧ rowsIW (allToks z) = due (tkN 4 d ++ [nlS, etS]) := by
  have E := all_ends z
  obtain ⟨t0, ht0, _⟩ : ∃ t0, (allToks z)[0]? = some t0 ∧ True := ⟨_, List.getElem?_eq_getElem E.pos, trivial⟩
  have hi : t0.i = some 0 := by
    by_cases c : t0.i = some 0
    · exact c
    · rw [koE_0 ht0 c] at h
      cases h
  cases hk : rdK (allToks z) 4 400 0 with
  | bad e =>
    rw [koE_bad ht0 hi hk] at h
    cases h
  | ok d1 j1 =>
    obtain ⟨o1, o2, o3⟩ := koE_ok ht0 hi hk
    have g := rdK_good (allToks z) 4 400 0 d1 j1 (by decide) hk
    obtain ⟨b1, b2⟩ := kind_words E 3 400 0 d1 j1 E.pos (by decide) hk
    by_cases c1 : tokS (allToks z) j1 = nlS
    rotate_left
    · rw [o1 c1] at h
      cases h
    obtain ⟨y1, y2⟩ := nx_of E b1 (by rw [c1]; decide +kernel)
    rw [y1] at o2 o3
    by_cases c2 : tokS (allToks z) (j1 + 1) = etS
    rotate_left
    · rw [o2 c1 c2] at h
      cases h
    rw [o3 c1 c2] at h
    injection h with h1 h2
    subst h1
    have hl := all_et y2 c2
    have ej : wsD (allToks z) j1 = [nlS, etS] := by
      rw [wsD_cons b1, wsD_cons y2, c1, c2]
      unfold wsD
      rw [List.drop_eq_nil_of_le (by omega)]
      rfl
    have hw : (allToks z).map Tok.s = tkN 4 d1 ++ [nlS, etS] := by
      rw [← ej]
      have e : wsD (allToks z) 0 = (allToks z).map Tok.s := rfl
      rw [← e]
      exact b2
    refine ⟨?_, g.pr, ?_⟩
    · unfold kindB
      rw [g.fm, Bool.true_and, decide_eq_true_iff]
      exact g.w2
    · refine due_of hw (fun x hx => (tk_ne 3 d1 g.fm x hx).1) (fun t ht => by rw [ht0] at ht; obtain rfl := Option.some.inj ht; exact hi) ?_ ?_
      · have := rows_ind ⟨((Txt.split z nlS).length : Int) + 1, 1, none, etS⟩ rfl (Txt.split z nlS) 0
        exact this
      · intro t ht
        have hlen : (allToks z).length = (tkN 4 d1).length + 2 := by
          have := congrArg List.length hw
          rw [List.length_map, List.length_append] at this
          exact this
        have e : (allToks z)[(tkN 4 d1).length + 1]? = some ⟨((Txt.split z nlS).length : Int) + 1, 1, none, etS⟩ := by
          unfold allToks at hlen ⊢
          rw [List.length_append, List.length_singleton] at hlen
          rw [List.getElem?_append_right (by omega), show (tkN 4 d1).length + 1 - (rowsToks 0 (Txt.split z nlS)).length = 0 by omega]
          rfl
        rw [e] at ht
        obtain rfl := Option.some.inj ht
        rfl
/-! ### a text of one line -/
theorem spl_none {S : List Nat} : ∀ (l acc : List Nat), (∀ c ∈ l, S.head? ≠ some c) → S ≠ [] → TL.spl S 0 acc l = [acc ++ l]
  | [], acc, _, _ => by
    rw [List.append_nil]
    rfl
  | c :: r, acc, h, hS => by
    obtain ⟨x, S', rfl⟩ : ∃ x S', S = x :: S' := by
      cases S with
      | nil => exact absurd rfl hS
      | cons x S' => exact ⟨x, S', rfl⟩
    have hx : x ≠ c := fun z => h c List.mem_cons_self (by rw [z]; rfl)
    have hp : TL.pre (x :: S') (c :: r) = false := by
      unfold TL.pre
      simp only [List.length_cons, List.take_succ_cons]
      rw [beq_eq_false_iff_ne]
      intro z
      injection z with z1 _
      exact hx z1.symm
    show (if TL.pre (x :: S') (c :: r) = true then _ else _) = _
    rw [hp, if_neg Bool.false_ne_true, spl_none r (acc ++ [c]) (fun y hy => h y (List.mem_cons_of_mem _ hy)) hS, List.append_assoc]
    rfl
end K3

set_option Elab.async false
set_option linter.all false
set_option pp.maxSteps 700
set_option maxRecDepth 100000
set_option maxHeartbeats 4000000
namespace K3
open PySem PySem.Spec PyProof.Rows L2
open TL (tl)
theorem par_none {S : List Nat} : ∀ (l acc : List Nat), (∀ c ∈ l, S.head? ≠ some c) → S ≠ [] → TL.par S acc l = none
  | [], acc, _, _ => rfl
  | c :: r, acc, h, hS => by
    obtain ⟨x, S', rfl⟩ : ∃ x S', S = x :: S' := by
      cases S with
      | nil => exact absurd rfl hS
      | cons x S' => exact ⟨x, S', rfl⟩
    have hx : x ≠ c := fun z => h c List.mem_cons_self (by rw [z]; rfl)
    have hp : TL.pre (x :: S') (c :: r) = false := by
      unfold TL.pre
      simp only [List.length_cons, List.take_succ_cons]
      rw [beq_eq_false_iff_ne]
      intro z
      injection z with z1 _
      exact hx z1.symm
    show (if TL.pre (x :: S') (c :: r) = true then _ else _) = _
    rw [hp, if_neg Bool.false_ne_true, par_none r (acc ++ [c]) (fun y hy => h y (List.mem_cons_of_mem _ hy)) hS]
theorem split_one {x : Str} (h : ∀ c ∈ tl x, c ≠ 10) : Txt.split x nlS = [x] := by
  have e := TL.split_spl x nlS (by rw [tl_nl]; simp) (nl_kind x)
  rw [spl_none (tl x) [] (fun c hc z => by rw [tl_nl] at z; exact h c hc (Option.some.inj z).symm) (by rw [tl_nl]; simp)] at e
  generalize Txt.split x nlS = l at *
  cases l with
  | nil => cases e
  | cons y r =>
    rw [List.map_cons] at e
    injection e with e1 e2
    rw [List.map_eq_nil_iff.mp e2, str_ext (e1.trans (List.nil_append _))]
theorem body_one {x : Str} (h : ∀ c ∈ tl x, c ≠ 35) : bodyOf x = x := by
  unfold bodyOf
  rw [TL.partition_par x hash (by rw [tl_hash]; simp), par_none (tl x) [] (fun c hc z => by rw [tl_hash] at z; exact h c hc (Option.some.inj z).symm) (by rw [tl_hash]; simp)]
/-- no line feed, no # -/
def sgOk (x : Str) : Prop := ∀ c ∈ tl x, c ≠ 10 ∧ c ≠ 35
theorem sg_app {x y : Str} (h1 : sgOk x) (h2 : sgOk y) : sgOk (x ++ y) := fun c hc => by
  rw [TL.tl_append] at hc
  rcases List.mem_append.mp hc with hc | hc
  · exact h1 c hc
  · exact h2 c hc
theorem sg_W {x : Str} (h : ∀ c ∈ tl x, isW c = true) : sgOk x := fun c hc => by
  have := h c hc
  refine ⟨fun z => ?_, fun z => ?_⟩ <;>
  · rw [z] at this
    exact absurd this (by decide +kernel)
theorem sg_join {sep : Str} (hs : sgOk sep) : ∀ l : List Str, (∀ x ∈ l, sgOk x) → sgOk (Txt.join sep l)
  | [], _ => by
    show sgOk (Builtin.Str.glued _ _)
    rw [StrLaws.glued_eq_join]
    intro c hc
    have hc : c ∈ tl Str.empty := hc
    have e : tl Str.empty = [] := rfl
    rw [e] at hc
    cases hc
  | [x], h => by
    rw [join_one]
    exact h x List.mem_cons_self
  | x :: y :: r, h => by
    rw [join_cons2]
    exact sg_app (sg_app (h x List.mem_cons_self) hs) (sg_join hs (y :: r) fun z hz => h z (List.mem_cons_of_mem _ hz))
theorem sg_of {x : Str} (h : (tl x).all (fun c => c != 10 && c != 35) = true) : sgOk x := fun c hc => by
  have := List.all_eq_true.mp h c hc
  simpa using this
theorem txt_sg : ∀ (n : Nat) (d : Dt), formed (n + 1) d = true → sgOk (txtN (n + 1) d)
  | n, d, h => by
    rcases formed_cases h with ⟨s, rfl, hs⟩ | ⟨m, hm, ⟨l, rfl, h1, h2, h3, _⟩ | ⟨i, z, rfl, h1, h2, h3⟩⟩
    · rw [txt_str]
      exact sg_W (plain_W hs).2
    · obtain rfl : n = m + 1 := by omega
      rw [txt_two]
      show sgOk ((("record(" : Str) ++ Txt.join (", " : Str) (l.map (fTx (txtN (m + 1))))) ++ (")" : Str))
      refine sg_app (sg_app (sg_of (by decide +kernel)) (sg_join (sg_of (by decide +kernel)) _ fun x hx => ?_)) (sg_of (by decide +kernel))
      obtain ⟨p, hp, rfl⟩ := List.mem_map.mp hx
      obtain ⟨s, y, rfl, hs, hy⟩ := pairF_of (h3 p hp)
      exact sg_app (sg_app (sg_W (name_W hs).2) (sg_of (by decide +kernel))) (txt_sg m y hy)
    · obtain rfl : n = m + 1 := by omega
      rw [txt_two]
      show sgOk (((("row " : Str) ++ iTx i) ++ (" " : Str)) ++ txtN (m + 1) z)
      exact sg_app (sg_app (sg_app (sg_of (by decide +kernel)) (sg_W (iTx_W' h1 h2).2)) (sg_of (by decide +kernel))) (txt_sg m z h3)
  termination_by n => n
  decreasing_by all_goals omega
/-- the first sign of a kind's text is one of a word -/
theorem txt_first {n : Nat} {d : Dt} (h : formed (n + 1) d = true) : ∃ c r, tl (txtN (n + 1) d) = c :: r ∧ c ≠ 32 := by
  rcases formed_cases h with ⟨s, rfl, hs⟩ | ⟨m, hm, ⟨l, rfl, h1, h2, h3, _⟩ | ⟨i, z, rfl, h1, h2, h3⟩⟩
  · rw [txt_str]
    obtain ⟨a, b⟩ := plain_W hs
    rw [TL.len_tl] at a
    cases e : tl s with
    | nil => rw [e] at a; exact absurd a (by decide)
    | cons c r => exact ⟨c, r, rfl, isW_32 (b c (by rw [e]; exact List.mem_cons_self))⟩
  · obtain rfl : n = m + 1 := by omega
    rw [txt_two]
    show ∃ c r, tl ((("record(" : Str) ++ _) ++ (")" : Str)) = c :: r ∧ c ≠ 32
    rw [TL.tl_append, TL.tl_append, show tl ("record(" : Str) = [114, 101, 99, 111, 114, 100, 40] by decide +kernel]
    exact ⟨114, _, rfl, by decide⟩
  · obtain rfl : n = m + 1 := by omega
    rw [txt_two]
    show ∃ c r, tl (((("row " : Str) ++ iTx i) ++ (" " : Str)) ++ txtN (m + 1) z) = c :: r ∧ c ≠ 32
    rw [TL.tl_append, TL.tl_append, TL.tl_append, show tl ("row " : Str) = [114, 111, 119, 32] by decide +kernel]
    exact ⟨114, _, rfl, by decide⟩
/-- the first token of a row that begins with a sign -/
theorem go_first (n : Int) (l : List Nat) (i : Nat) (acc : List Tok) (b : Nat) (t : Tok) (h : acc[0]? = some t) : (go n l i acc b)[0]? = some t := by
  induction i, acc, b using go.induct (n := n) (l := l) with
  | case1 i acc b hi hb ih =>
    rw [go_blank hi hb]
    exact ih h
  | case2 i acc b hi hb ih =>
    simp only [dite_eq_ite] at ih
    rw [go_tok hi hb]
    refine ih ?_
    rw [List.getElem?_append_left (List.getElem?_eq_some_iff.mp h).1]
    exact h
  | case3 i b hi => simp at h
  | case4 i acc b hi hne =>
    rw [go_end hi, if_neg hne, List.getElem?_append_left (List.getElem?_eq_some_iff.mp h).1]
    exact h
theorem line_first {n : Int} {l : List Nat} {c : Nat} {r : List Nat} (e : l = c :: r) (hc : c ≠ 32) : ∀ t, (lineToks n l)[0]? = some t → t.i = some 0 := by
  intro t ht
  unfold lineToks at ht
  rw [go_tok (i := 0) (by rw [e]; simp) (by rw [e]; exact hc)] at ht
  rw [go_first n l _ _ _ ⟨n, ((0 : Nat) : Int) + 1, some ((0 : Nat) : Int), cut l 0 (tokEnd l 0)⟩ rfl] at ht
  obtain rfl := Option.some.inj ht
  rfl
/-- a kind's own text has just the kind's words -/
theorem own_due {d : Dt} (h : formed 4 d = true) : rowsIW (allToks (txtN 4 d)) = due (tkN 4 d ++ [nlS, etS]) := by
  have sg := txt_sg 3 d h
  have h1 := split_one fun c hc => (sg c hc).1
  have h2 := body_one fun c hc => (sg c hc).2
  have wlx : wl (tl (txtN 4 d)) = tkN 4 d := by
    have := txt_wl 3 d h [] (fun c hc => by cases hc)
    rw [List.append_nil, wl_nil, List.append_nil] at this
    exact this
  obtain ⟨c, r, e0, hc⟩ := txt_first h
  have tne : tkN 4 d ≠ [] := by
    rw [← wlx, e0]
    cases hw : isW c with
    | true => rw [wl_w hc hw]; simp
    | false => rw [wl_sign hc hw]; simp
  have ea : allToks (txtN 4 d) = lineToks (((0 : Nat) : Int) + 1) (tl (txtN 4 d)) ++ [⟨((Txt.split (txtN 4 d) nlS).length : Int) + 1, 1, none, etS⟩] := by
    unfold allToks
    rw [h1]
    show (lineToks (((0 : Nat) : Int) + 1) (tl (bodyOf (txtN 4 d))) ++ []) ++ _ = _
    rw [h2, List.append_nil]
  have hw : (allToks (txtN 4 d)).map Tok.s = tkN 4 d ++ [nlS, etS] := by
    have hlw := line_wl (((0 : Nat) : Int) + 1) (tl (txtN 4 d))
    rw [wlx, if_neg tne] at hlw
    rw [ea, List.map_append]
    have hlw : (lineToks (((0 : Nat) : Int) + 1) (tl (txtN 4 d))).map Tok.s = tkN 4 d ++ [nlS] := hlw
    rw [hlw, List.append_assoc]
    rfl
  have hlen : (lineToks (((0 : Nat) : Int) + 1) (tl (txtN 4 d))).length = (tkN 4 d).length + 1 := by
    have := congrArg List.length hw
    rw [ea, List.length_map, List.length_append, List.length_append] at this
    simp only [List.length_cons, List.length_nil] at this
    omega
  refine due_of hw (fun x hx => (tk_ne 3 d h x hx).1) (fun t ht => ?_) ?_ (fun t ht => ?_)
  · rw [ea, List.getElem?_append_left (by omega)] at ht
    exact line_first e0 hc t ht
  · exact rows_ind ⟨((Txt.split (txtN 4 d) nlS).length : Int) + 1, 1, none, etS⟩ rfl (Txt.split (txtN 4 d) nlS) 0
  · rw [ea, List.getElem?_append_right (by omega), hlen, Nat.sub_self] at ht
    obtain rfl := Option.some.inj ht
    rfl
end K3

set_option Elab.async false
set_option linter.all false
set_option pp.maxSteps 700
set_option maxRecDepth 100000
set_option maxHeartbeats 4000000
namespace K3
open PySem PySem.Spec PyProof.Rows L2
open TL (tl)
abbrev sSame : Stmt := top 62
/-! ### two texts of the same tokens -/
def iwD (p : Option Int × Str) : PyData := .tuple [ixP p.1, .str p.2]
def iwV (t : Tok) : List V := [(match t.i with | some i => .int i | none => .non), .str t.s]
def IwAt (H : Hp) (v : V) (t : Tok) : Prop := ∃ a, v = .ref a ∧ H a = some (.tup (iwV t))
theorem IwAt.keep {H H' : Hp} (k : KT H H') {v : V} {t : Tok} (h : IwAt H v t) : IwAt H' v t := by
  obtain ⟨a, e, h⟩ := h
  exact ⟨a, e, k _ _ h⟩
theorem dp_iw {K : PySem.W.Frag} {H : Hp} : ∀ {xs : List V} {ts : List Tok}, Paired (IwAt H) xs ts → DpAll K H xs ((rowsIW ts).map iwD)
  | _, _, .nil => .nil
  | _, _, .cons (b := t) ⟨a, e, h⟩ r => by
    subst e
    exact .cons (.tup (SqT.of h) (.cons (ixV_p t.i) (.cons (.str _) .nil))) (dp_iw r)
theorem lay_iw : ∀ {l : List (Option Int × Str)}, (∀ p ∈ l, asc p.2) → PyData.canLayAll0 (l.map iwD) = true ∧ PyData.depthAll (l.map iwD) ≤ 1
  | [], _ => ⟨rfl, Nat.zero_le _⟩
  | p :: l, h => by
    obtain ⟨h1, h2⟩ := lay_iw (l := l) fun q hq => h q (List.mem_cons_of_mem _ hq)
    have h3 := asc_ok (h p (List.mem_cons_self ..))
    obtain ⟨o, s⟩ := p
    have e1 : PyData.canLay0 (iwD (o, s)) = true := by
      cases o <;> (show (true && (PyData.strOk s && true)) = true; rw [h3]; rfl)
    have e2 : PyData.depth (iwD (o, s)) = 1 := by cases o <;> rfl
    refine ⟨?_, ?_⟩
    · show (PyData.canLay0 (iwD (o, s)) && PyData.canLayAll0 (l.map iwD)) = true
      rw [e1, h1]
      rfl
    · show max (PyData.depth (iwD (o, s))) (PyData.depthAll (l.map iwD)) ≤ 1
      rw [e2]
      omega
theorem sh_iw {l : List (Option Int × Str)} (h : ∀ p ∈ l, asc p.2) : SeqAt.shaped (.list (l.map iwD)) = true := by
  obtain ⟨h1, h2⟩ := lay_iw h
  unfold SeqAt.shaped
  show (PyData.canLayAll0 (l.map iwD) && decide (PyData.depthAll (l.map iwD) + 1 ≤ 64)) = true
  rw [h1, decide_eq_true (by omega)]
  rfl
def spSame : Sp := fun vs H Q _ => ∃ (x y : Str), vs = [.str x, .str y] ∧ x.length ≤ 9999 ∧ y.length ≤ 9999 ∧ (Txt.split x nlS).length ≤ 1500 ∧ (Txt.split y nlS).length ≤ 1500 ∧ asc x ∧ asc y ∧ rowsIW (allToks x) = rowsIW (allToks y) ∧ ∀ H', Same H H' → Q (.bl true) H'
structure MgSm (K : PySem.W.Frag) (mg : Str → Option Value) (fGT : Addr) : Prop where
  gt : mg "_law_tx_tokens" = some (.ref fGT)
  kgt : PySem.W.keepIn K (.ref fGT) = true
section
variable {P : Program} {w : World} {K : PySem.W.Frag} {mg : Str → Option Value} {base : Heap}
theorem scSame : FnScope ["one", "other", "row"] ["one", "other"] (defScope sSame) := ⟨rfl, rfl, rfl, by decide +kernel, rfl, by decide +kernel, by decide +kernel⟩
theorem ok_same {f fGT : Addr} {fd fdGT : FuncData} (F : Fun K "_law_tx_same" "_law_tx_same" sSame f fd) (T : MgSm K mg fGT) (G : FnOk P w K mg base CX0 1 fGT fdGT ["text"] spGT) (b : L2.Binds K fdGT ["text"] []) : FnOk P w K mg base CX0 2 f fd ["one", "other"] spSame := by
  refine F.ok scSame (fun vs H Q E h => ?_) (fun cdv A outer s H vs Q E hr h => ?_)
  · obtain ⟨x, y, rfl, _⟩ := h
    rfl
  · obtain ⟨x, y, rfl, lx, ly, rx, ry, ax, ay, he, k⟩ := h
    refine ⟨_, (pss_one (ps_ret (pe_cmpR (op_eqD hr.units) (pe_lc (own := [("row", 2)]) (g := gName 2) (tt := tYes) (by rfl) scSame.nd (pi_list (pe_call G hr (by rfl) T.gt T.kgt b .nil pass0 (pa_cons (pv 0) pa_nil))) (blkOk_by (own := [("row", 2)]) (N := ["one", "other", "row"]) (sc := defScope sSame) (by decide +kernel)) (fun _ _ _ _ _ => (pg_name (i := 2) scSame.nd rfl (Or.inl rfl))) (fun _ _ _ _ _ => pts_nil) (fun _ _ _ _ _ => (pe_slice (show SlR _ (rSlA K) from sl_tupA) (pv 2) (po_some pe_int) po_none))) (pe_lc (own := [("row", 2)]) (g := gName 2) (tt := tYes) (by rfl) scSame.nd (pi_list (pe_call G hr (by rfl) T.gt T.kgt b .nil pass0 (pa_cons (pv 1) pa_nil))) (blkOk_by (own := [("row", 2)]) (N := ["one", "other", "row"]) (sc := defScope sSame) (by decide +kernel)) (fun _ _ _ _ _ => (pg_name (i := 2) scSame.nd rfl (Or.inl rfl))) (fun _ _ _ _ _ => pts_nil) (fun _ _ _ _ _ => (pe_slice (show SlR _ (rSlA K) from sl_tupA) (pv 2) (po_some pe_int) po_none))) (nomark _)))), ?_⟩
    refine ⟨_, rfl, x, rfl, by omega, rx, fun p xs H1 s1 hp0 hp pr hx => ?_⟩
    have step : ∀ (x : Str) (H1 : Hp) (p : Addr) (xs : List V) (D : Addr), H1 p = some (.lst xs) → Paired (TokAt H1) xs (allToks x) → xs.length ≤ 16000000 → H1 D = none → ∀ (i : Nat) (v : V) (H' : Hp), xs[i]? = some v → (∃ zs, H' D = some (.lst zs) ∧ Paired (IwAt H') zs ((allToks x).take i) ∧ Same H1 H') →
        ∃ a, v = .ref a ∧ H' a = some (.tup (match (allToks x)[i]? with | some t => t.vs | none => [])) ∧ i < (allToks x).length ∧ ∀ q, H' q = none → ∃ acc, (upd H' q (.tup (match (allToks x)[i]? with | some t => iwV t | none => []))) D = some (.lst acc) ∧ acc.length < sizeLine ∧
          ∃ zs, (upd (upd H' q (.tup (match (allToks x)[i]? with | some t => iwV t | none => []))) D (.lst (acc ++ [.ref q]))) D = some (.lst zs) ∧ Paired (IwAt (upd (upd H' q (.tup (match (allToks x)[i]? with | some t => iwV t | none => []))) D (.lst (acc ++ [.ref q])))) zs ((allToks x).take (i + 1)) ∧ Same H1 (upd (upd H' q (.tup (match (allToks x)[i]? with | some t => iwV t | none => []))) D (.lst (acc ++ [.ref q]))) := by
      intro x H1 p xs D hp pr hx hD i v H' hi ⟨zs, h1, h2, s2⟩
      obtain ⟨t, ht, a, rfl, ha⟩ := paired_at pr hi
      rw [ht]
      have hil := (List.getElem?_eq_some_iff.mp ht).1
      refine ⟨a, rfl, s2 _ _ ha, hil, fun q hq => ?_⟩
      have nDq : D ≠ q := ne_of_none h1 hq
      have lz := paired_len h2
      have lx := paired_len pr
      rw [List.length_take] at lz
      refine ⟨zs, by rw [upd_ne nDq]; exact h1, by rw [sizeLine_eq]; omega, _, upd_same, ?_, fun b o e => ?_⟩
      · have kt : KT H' (upd (upd H' q (.tup (iwV t))) D (.lst (zs ++ [.ref q]))) := (KT.new hq).trans (KT.put (xs := zs) (by rw [upd_ne nDq]; exact h1))
        rw [List.take_succ, ht]
        exact paired_app (Paired.mapP h2 fun _ _ z => z.keep kt) (.cons ⟨q, rfl, by rw [upd_ne nDq.symm, upd_same]⟩ .nil)
      · rw [upd_ne (ne_of_none e hD), upd_ne (ne_of_none (s2 _ _ e) hq)]
        exact s2 _ _ e
    refine ⟨p, rfl, ⟨_, SqL.of hp⟩, fun D hD => ?_⟩
    refine lc_list (K := K) (a := p) (xs := xs) (te := tSl (rSlA K) (tVar 2) (tPart (tC (V.int 2))) tNoPart) (fun i H' => ∃ zs, H' D = some (.lst zs) ∧ Paired (IwAt H') zs ((allToks x).take i) ∧ Same H1 H') ⟨[], upd_same, .nil, same_new hD⟩ (fun i H' _ ⟨_, _, _, s2⟩ => s2.seq (SqL.of hp)) ?_ ?_
    · intro i v H' hi hinv
      obtain ⟨a, rfl, ha, hil, fin⟩ := step x H1 p xs D hp pr hx hD i v H' hi hinv
      obtain ⟨t, ht⟩ : ∃ t, (allToks x)[i]? = some t := ⟨_, List.getElem?_eq_getElem hil⟩
      rw [ht] at ha fin
      refine ⟨rfl, ?_⟩
      refine ⟨_, rfl, 2, rfl, a, t.vs, rfl, SqT.of ha, fun hw => ?_, fun _ q hq => ?_⟩
      · have e : HT.sIx t.vs.length 0 (some 2) = 2 := by
          show HT.sIx 4 0 (some 2) = 2
          decide +kernel
        rw [e] at hw
        exact absurd hw.1 (by decide)
      · exact fin q hq
    · rintro H2 ⟨zs, h1, h2, s2⟩
      have pr1 : Paired (IwAt H2) zs (allToks x) := by
        have e : xs.length = (allToks x).length := paired_len pr
        rw [e, List.take_length] at h2
        exact h2
      refine ⟨_, rfl, y, rfl, by omega, ry, fun p2 xs2 H3 s3 hp20 hp2 pr2 hx2 => ?_⟩
      refine ⟨p2, rfl, ⟨_, SqL.of hp2⟩, fun D2 hD2 => ?_⟩
      refine lc_list (K := K) (a := p2) (xs := xs2) (te := tSl (rSlA K) (tVar 2) (tPart (tC (V.int 2))) tNoPart) (fun i H' => ∃ zs, H' D2 = some (.lst zs) ∧ Paired (IwAt H') zs ((allToks y).take i) ∧ Same H3 H') ⟨[], upd_same, .nil, same_new hD2⟩ (fun i H' _ ⟨_, _, _, s2⟩ => s2.seq (SqL.of hp2)) ?_ ?_
      · intro i v H' hi hinv
        obtain ⟨a, rfl, ha, hil, fin⟩ := step y H3 p2 xs2 D2 hp2 pr2 hx2 hD2 i v H' hi hinv
        obtain ⟨t, ht⟩ : ∃ t, (allToks y)[i]? = some t := ⟨_, List.getElem?_eq_getElem hil⟩
        rw [ht] at ha fin
        refine ⟨rfl, ?_⟩
        refine ⟨_, rfl, 2, rfl, a, t.vs, rfl, SqT.of ha, fun hw => ?_, fun _ q hq => ?_⟩
        · have e : HT.sIx t.vs.length 0 (some 2) = 2 := by
            show HT.sIx 4 0 (some 2) = 2
            decide +kernel
          rw [e] at hw
          exact absurd hw.1 (by decide)
        · exact fin q hq
      · rintro H4 ⟨zs2, h3, h4, s4⟩
        have pr3 : Paired (IwAt H4) zs2 (allToks y) := by
          have e : xs2.length = (allToks y).length := paired_len pr2
          rw [e, List.take_length] at h4
          exact h4
        have s24 := s3.trans s4
        have ax' : ∀ p ∈ rowsIW (allToks x), asc p.2 := fun p hp => by
          obtain ⟨t, ht, rfl⟩ := List.mem_map.mp hp
          exact all_asc ax t ht
        have sh := sh_iw ax'
        refine ⟨.list ((rowsIW (allToks x)).map iwD), .list ((rowsIW (allToks y)).map iwD), .lst (SqL.of (s24 _ _ h1)) (dp_iw (Paired.mapP pr1 fun _ _ z => z.keep (KT.of s24))), .lst (SqL.of h3) (dp_iw pr3), sh, by rw [← he]; exact sh, ?_⟩
        rw [← he]
        have e : PyData.eqv (.list ((rowsIW (allToks x)).map iwD)) (.list ((rowsIW (allToks x)).map iwD)) = true := SeqAt.eqv_refl _ (lay_iw ax').1
        rw [e]
        exact k _ ((s1.trans s2).trans s24)
end
end K3

set_option Elab.async false
set_option linter.all false
set_option pp.maxSteps 700
set_option maxRecDepth 100000
set_option maxHeartbeats 4000000
namespace K3
open PySem PySem.Spec PyProof.Rows L2
open TL (tl)
abbrev sClo : Stmt := top 68
section
variable {X : Cx}
/-- xs != [], xs any list -/
theorem op_neNil (hu : X.A.units + 64 < cLine) : OpR X (compareOp .NotEq) (fun x y H Q => ∃ (a b : Addr) (xs : List V), x = .ref a ∧ y = .ref b ∧ SqL X.K H a xs ∧ SqL X.K H b [] ∧ Q (.bl (!xs.isEmpty)) H) := by
  intro pins s σ H x y v u Q I rx ry h
  obtain ⟨a, b, xs, rfl, rfl, ha, hb, q⟩ := h
  cases (show v = Value.ref a from rx)
  cases (show u = Value.ref b from ry)
  obtain ⟨us, r1, p1, _⟩ := I.list ha
  obtain ⟨ws, r2, p2, _⟩ := I.list hb
  cases r2
  cases r1 with
  | nil => exact SeqAt.RcNeAt.lists (e := fun _ => true) p1.isList p2.isList rfl (by omega) (fun j h1 _ => absurd h1 (by simp)) _ _ _ _ (fin_bl I q rfl)
  | cons h t => exact SeqAt.RcNeAt.lists_lengths p1.isList p2.isList (by simp) (by omega) _ _ _ _ (fin_bl I q rfl)
end
/-! ### the stack of the law's reader -/
def FrAt (H : Hp) (v : V) : Fr → Prop
  | .row n => ∃ r, v = .ref r ∧ H r = some (.lst [.str "row", .int n, .int 0])
  | .rec_ ns w => ∃ r q, v = .ref r ∧ H r = some (.lst [.str "record", .ref q, .int w]) ∧ H q = some (.lst (ns.map V.str))
def StkAt (H : Hp) (a : Addr) (s : List Fr) : Prop := ∃ vs, H a = some (.lst vs) ∧ Paired (FrAt H) vs s.reverse
theorem FrAt.keep {H H' : Hp} (k : Same H H') {v : V} {f : Fr} (h : FrAt H v f) : FrAt H' v f := by
  cases f with
  | row n =>
    obtain ⟨r, e, h⟩ := h
    exact ⟨r, e, k _ _ h⟩
  | rec_ ns w =>
    obtain ⟨r, q, e, h, h2⟩ := h
    exact ⟨r, q, e, k _ _ h, k _ _ h2⟩
theorem StkAt.keep {H H' : Hp} (k : Same H H') {a : Addr} {s : List Fr} (h : StkAt H a s) : StkAt H' a s := by
  obtain ⟨vs, e, p⟩ := h
  exact ⟨vs, k _ _ e, Paired.mapP p fun _ _ z => z.keep k⟩
end K3

set_option Elab.async false
set_option linter.all false
set_option pp.maxSteps 700
set_option maxRecDepth 100000
set_option maxHeartbeats 4000000
namespace K3
open PySem PySem.Spec PyProof.Rows L2
open TL (tl)
def wtS : Wt → Str
  | .kind => "kind" | .items => "items" | .paren => "(" | .name => "name" | .more => "more" | .line => "line" | .text => "text" | .done => "done"
def rowB (s : List Fr) : Prop := ∀ n, Fr.row n ∈ s → 1 ≤ n ∧ n ≤ 64
def StAt (H : Hp) (p : Addr) (st : List Fr × Wt) : Prop := ∃ b, H p = some (.tup [.ref b, .str (wtS st.2)]) ∧ StkAt H b st.1
def spClo : Sp := fun vs H Q _ => ∃ (a : Addr) (w : Int) (s : List Fr), vs = [.ref a, .int w] ∧ StkAt H a s ∧ s.length ≤ 3 ∧ rowB s ∧ ∀ p H', Same H H' → StAt H' p (closedS s w) → Q (.ref p) H'
theorem paired_snoc {α β : Type} {F : α → β → Prop} : ∀ {ys : List β} {xs : List α} {y : β}, Paired F xs (ys ++ [y]) → ∃ xs' x, xs = xs' ++ [x] ∧ Paired F xs' ys ∧ F x y
  | [], _, _, .cons h .nil => ⟨[], _, rfl, .nil, h⟩
  | _ :: ys, _, _, .cons h r => by
    obtain ⟨xs', x, rfl, p, q⟩ := paired_snoc r
    exact ⟨_ :: xs', x, rfl, .cons h p, q⟩
structure MgClo (mg : Str → Option Value) : Prop where
  len : mg "len" = none
section
variable {P : Program} {w : World} {K : PySem.W.Frag} {mg : Str → Option Value} {base : Heap}
theorem scClo : FnScope ["stack", "words", "last"] ["stack", "words"] (defScope sClo) := ⟨rfl, rfl, rfl, by decide +kernel, rfl, by decide +kernel, by decide +kernel⟩
theorem ok_clo {f : Addr} {fd : FuncData} (F : Fun K "_law_closed" "_law_closed" sClo f fd) (T : MgClo mg) : FnOk P w K mg base CX0 1 f fd ["stack", "words"] spClo := by
  refine F.ok scClo (fun vs H Q E h => ?_) (fun cdv A outer s H vs Q E hr h => ?_)
  · obtain ⟨a, w, s, rfl, _⟩ := h
    rfl
  · obtain ⟨a, w0, s0, rfl, hS, hl, hB, k⟩ := h
    refine ⟨_, (pss_cons (ps_while PassesOwn.never (PW.pt (pw_and (pt_cmpR (op_neNil hr.units) (pv 0) (pe_lst pa_nil) (nomark _)) (pw_and1 (pt_cmpR op_eq (pe_ix ix_list (pe_ix ix_list (pv 0) (pe_op op_sub (pe_callB call_len_seq (by rfl) T.len PySem.boot_len (pa_cons (pv 0) pa_nil)) pe_int) (fun _ _ => rfl)) pe_int (fun _ _ => rfl)) pe_str (nomark _)))))
          (pss_cons (ps_set (i := 1) scClo.nd rfl (Or.inl rfl) (pe_op op_mul (pv 1) (pe_ix ix_list (pe_ix ix_list (pv 0) (pe_op op_sub (pe_callB call_len_seq (by rfl) T.len PySem.boot_len (pa_cons (pv 0) pa_nil)) pe_int) (fun _ _ => rfl)) pe_int (fun _ _ => rfl))))
          (pss_one (ps_set (i := 0) scClo.nd rfl (Or.inl rfl) (pe_slice sl_list (pv 0) po_none (po_some (pe_op op_sub (pe_callB call_len_seq (by rfl) T.len PySem.boot_len (pa_cons (pv 0) pa_nil)) pe_int)))))))
      (pss_cons (ps_if (pt_cmpR (op_eqNil hr.units) (pv 0) (pe_lst pa_nil) (nomark _)) (pss_one (ps_ret (pe_tup (pa_cons (pv 0) (pa_cons pe_str pa_nil))))) pss_nil)
      (pss_cons (ps_set (i := 2) scClo.nd rfl (Or.inl rfl) (pe_ix ix_list (pv 0) (pe_op op_sub (pe_callB call_len_seq (by rfl) T.len PySem.boot_len (pa_cons (pv 0) pa_nil)) pe_int) (fun _ _ => rfl)))
      (pss_one (ps_ret (pe_tup (pa_cons (pe_op op_cat (pe_slice sl_list (pv 0) po_none (po_some (pe_op op_sub (pe_callB call_len_seq (by rfl) T.len PySem.boot_len (pa_cons (pv 0) pa_nil)) pe_int))) (pe_lst (pa_cons (pe_lst (pa_cons pe_str (pa_cons (pe_ix ix_list (pv 2) pe_int (fun _ _ => rfl)) (pa_cons (pe_op op_add (pe_ix ix_list (pv 2) pe_int (fun _ _ => rfl)) (pv 1)) pa_nil)))) pa_nil))) (pa_cons pe_str pa_nil)))))))), ?_⟩
    refine while_m (fun m σ H' => ∃ (a' : Addr) (w' : Int) (s' : List Fr), σ = [some (.ref a'), some (.int w'), none] ∧ m = s'.length ∧ StkAt H' a' s' ∧ Same H H' ∧ closedS s' w' = closedS s0 w0 ∧ s'.length ≤ 3 ∧ rowB s') s0.length ⟨a, w0, s0, rfl, rfl, hS, Same.refl H, rfl, hl, hB⟩ ?_
    rintro m σ H1 ⟨a', w', s', rfl, rfl, S1, s1, e1, l1, B1⟩
    obtain ⟨vs, hv, pr⟩ := id S1
    refine ⟨_, rfl, Nat.zero_le _, fun q hq => ?_⟩
    generalize hH2 : upd H1 q _ = H2
    obtain ⟨sq, eq⟩ := freshF hq hH2
    refine ⟨a', q, vs, rfl, rfl, SqL.of (sq _ _ hv), SqL.of eq, _, rfl, ?_⟩
    have lv := paired_len pr
    rw [List.length_reverse] at lv
    cases s' with
    | nil =>
      have ev : vs = [] := List.length_eq_zero_iff.mp lv
      subst ev
      refine ifF rfl ?_
      refine iteF ?_
      refine ⟨_, rfl, Nat.zero_le _, fun q2 hq2 => ?_⟩
      have s3 := same_new (o := .lst []) hq2
      refine ⟨a', q2, [], rfl, rfl, SqL.of (s3 _ _ (sq _ _ hv)), SqL.of upd_same, _, rfl, ?_⟩
      refine iteT ?_
      refine ⟨_, rfl, (by show 2 ≤ sizeLine; decide), fun p hp => ?_⟩
      have sp := same_new (o := .tup [V.ref a', .str "line"]) hp
      refine k p _ (((s1.trans sq).trans s3).trans sp) ?_
      rw [← e1]
      exact ⟨a', upd_same, S1.keep ((sq.trans s3).trans sp)⟩
    | cons f r =>
      rw [List.reverse_cons] at pr
      obtain ⟨vs', v, rfl, pr', hf⟩ := paired_snoc pr
      have lv' : vs'.length = r.length := by
        have := paired_len pr'
        rw [List.length_reverse] at this
        exact this
      refine ifT (by simp) ?_
      have el : (((vs' ++ [v]).length : Nat) : Int) - 1 = ((vs'.length : Nat) : Int) := by
        rw [List.length_append, List.length_singleton]
        omega
      have hat : atI (vs' ++ [v]) ((((vs' ++ [v]).length : Nat) : Int) - 1) = some v := by
        rw [el]
        exact atI_nat (by rw [List.getElem?_append_right (Nat.le_refl _), Nat.sub_self]; rfl)
      have hv2 := sq _ _ hv
      have ec : cutV (vs' ++ [v]) none (some ((((vs' ++ [v]).length : Nat) : Int) - 1)) = vs' := by
        rw [el]
        unfold cutV
        rw [HT.sIx_none, List.drop_zero, HT.sIx_nat]
        have e : min vs'.length (vs' ++ [v]).length = vs'.length := by rw [List.length_append]; omega
        rw [e, Nat.sub_zero, List.take_left]
      cases f with
      | row n =>
        obtain ⟨rr, rfl, hr1⟩ := hf
        have hr2 := sq _ _ hr1
        refine ⟨_, rfl, _, rfl, a', _, rfl, .inl (SqL.of hv2), _, _, rfl, rfl, a', _, _, _, rfl, rfl, SqL.of hv2, hat, rr, _, 0, _, rfl, rfl, SqL.of hr2, atI_nat (j := 0) rfl, rfl, _, rfl, ?_⟩
        refine iteT ?_
        refine ⟨_, fun _ _ h => h, ?_⟩
        have hn := B1 n List.mem_cons_self
        refine ⟨_, rfl, _, rfl, _, rfl, a', _, rfl, .inl (SqL.of hv2), _, _, rfl, rfl, a', _, _, _, rfl, rfl, SqL.of hv2, hat, rr, _, 1, _, rfl, rfl, SqL.of hr2, atI_nat (j := 1) rfl, _, _, rfl, rfl, .inr ⟨by omega, by omega⟩, ?_⟩
        refine ⟨_, rfl, _, rfl, a', _, rfl, .inl (SqL.of hv2), _, _, rfl, rfl, _, rfl, a', _, rfl, SqL.of hv2, fun p hp => ?_⟩
        rw [ec]
        have sp := same_new (o := .lst vs') hp
        refine ⟨r.length, by rw [List.length_cons]; omega, p, w' * n, r, rfl, rfl, ⟨vs', upd_same, Paired.mapP pr' fun _ _ z => z.keep (sq.trans sp)⟩, (s1.trans sq).trans sp, e1, by rw [List.length_cons] at l1; omega, fun m hm => B1 m (List.mem_cons_of_mem _ hm)⟩
      | rec_ ns w =>
        obtain ⟨rr, qu, rfl, hr1, hu⟩ := hf
        have hr2 := sq _ _ hr1
        refine ⟨_, rfl, _, rfl, a', _, rfl, .inl (SqL.of hv2), _, _, rfl, rfl, a', _, _, _, rfl, rfl, SqL.of hv2, hat, rr, _, 0, _, rfl, rfl, SqL.of hr2, atI_nat (j := 0) rfl, rfl, _, rfl, ?_⟩
        refine iteF ?_
        refine ⟨_, rfl, Nat.zero_le _, fun q2 hq2 => ?_⟩
        generalize hH3 : upd H2 q2 _ = H3
        obtain ⟨s3, e3⟩ := freshF hq2 hH3
        refine ⟨a', q2, _, rfl, rfl, SqL.of (s3 _ _ hv2), SqL.of e3, _, rfl, ?_⟩
        refine ifF (by simp) ?_
        have hv3 := s3 _ _ hv2
        have hr3 := s3 _ _ hr2
        refine ⟨_, rfl, _, rfl, a', _, rfl, .inl (SqL.of hv3), _, _, rfl, rfl, a', _, _, _, rfl, rfl, SqL.of hv3, hat, ?_⟩
        refine ⟨_, rfl, _, rfl, a', _, rfl, .inl (SqL.of hv3), _, _, rfl, rfl, _, rfl, a', _, rfl, SqL.of hv3, fun p hp => ?_⟩
        rw [ec]
        generalize hH4 : upd H3 p _ = H4
        obtain ⟨sp, ep⟩ := freshF hp hH4
        have hr4 := sp _ _ hr3
        refine ⟨_, rfl, rr, _, 1, _, rfl, rfl, SqL.of hr4, atI_nat (j := 1) rfl, _, rfl, rr, _, 2, _, rfl, rfl, SqL.of hr4, atI_nat (j := 2) rfl, _, rfl, _, _, rfl, rfl, (by show 3 ≤ sizeLine; decide), fun p2 hp2 => ?_⟩
        generalize hH5 : upd H4 p2 _ = H5
        obtain ⟨sp2, ep2⟩ := freshF hp2 hH5
        refine ⟨(by show 1 ≤ sizeLine; decide), fun p3 hp3 => ?_⟩
        generalize hH6 : upd H5 p3 _ = H6
        obtain ⟨sp3, ep3⟩ := freshF hp3 hH6
        refine ⟨p, p3, _, _, rfl, rfl, sp3 _ _ (sp2 _ _ ep), ep3, (by rw [List.length_cons] at l1; rw [lv', sizeLine_eq]; show r.length + 1 ≤ _; omega), fun p4 hp4 => ?_⟩
        generalize hH7 : upd H6 p4 _ = H7
        obtain ⟨sp4, ep4⟩ := freshF hp4 hH7
        refine ⟨(by show 2 ≤ sizeLine; decide), fun p5 hp5 => ?_⟩
        have sp5 := same_new (o := .tup [V.ref p4, .str "more"]) hp5
        have s27 := ((((sp.trans sp2).trans sp3).trans sp4).trans sp5)
        have s17 := (sq.trans s3).trans s27
        refine k p5 _ (s1.trans s17) ?_
        rw [← e1]
        refine ⟨p4, upd_same, _, sp5 _ _ ep4, ?_⟩
        show Paired _ _ (List.reverse (.rec_ ns (w + w') :: r))
        rw [List.reverse_cons]
        exact paired_app (Paired.mapP pr' fun _ _ z => z.keep s17) (.cons ⟨p2, qu, rfl, sp5 _ _ (sp4 _ _ (sp3 _ _ ep2)), s17 _ _ hu⟩ .nil)
end
end K3

set_option Elab.async false
set_option linter.all false
set_option pp.maxSteps 700
set_option maxRecDepth 100000
set_option maxHeartbeats 4000000
namespace K3
open PySem PySem.Spec PyProof.Rows L2
open TL (tl)
/-! ### what states keep -/
def nsB (s : List Fr) : Prop := ∀ ns w, Fr.rec_ ns w ∈ s → ns.length ≤ 6
def WfT : List Fr × Wt → Prop
  | (s, .kind) => True
  | (s, .items) => ∃ r, s = .row 1 :: r
  | (s, .paren) => ∃ r, s = .rec_ [] 0 :: r
  | (s, .name) => ∃ ns w r, s = .rec_ ns w :: r ∧ ns.length < 6
  | (s, .more) => ∃ ns w r, s = .rec_ ns w :: r
  | (s, .line) => s = []
  | (s, .text) => s = []
  | (s, .done) => s = []
structure WfS (st : List Fr × Wt) : Prop where
  len : st.1.length ≤ 3
  row : rowB st.1
  ns : nsB st.1
  top : WfT st
theorem closed_wf : ∀ (s : List Fr) (w : Int), s.length ≤ 3 → rowB s → nsB s → WfS (closedS s w)
  | [], w, h1, h2, h3 => ⟨Nat.zero_le _, h2, h3, rfl⟩
  | .row n :: r, w, h1, h2, h3 => closed_wf r (w * n) (by rw [List.length_cons] at h1; omega) (fun m hm => h2 m (List.mem_cons_of_mem _ hm)) (fun ns v hm => h3 ns v (List.mem_cons_of_mem _ hm))
  | .rec_ ns v :: r, w, h1, h2, h3 => by
    refine ⟨h1, fun m hm => ?_, fun ns' v' hm => ?_, ⟨ns, _, r, rfl⟩⟩
    · rcases List.mem_cons.mp hm with e | e
      · cases e
      · exact h2 m (List.mem_cons_of_mem _ e)
    · rcases List.mem_cons.mp hm with e | e
      · injection e with e1 e2
        rw [e1]
        exact h3 ns v List.mem_cons_self
      · exact h3 ns' v' (List.mem_cons_of_mem _ e)
theorem rowB_push {s : List Fr} (h : rowB s) {n : Int} (hn : 1 ≤ n ∧ n ≤ 64) : rowB (.row n :: s) := fun m hm => by
  rcases List.mem_cons.mp hm with e | e
  · injection e with e
    rw [e]
    exact hn
  · exact h m e
theorem rowB_rec {s : List Fr} (h : rowB s) {ns : List Str} {w : Int} : rowB (.rec_ ns w :: s) := fun m hm => by
  rcases List.mem_cons.mp hm with e | e
  · cases e
  · exact h m e
theorem nsB_push {s : List Fr} (h : nsB s) {n : Int} : nsB (.row n :: s) := fun ns w hm => by
  rcases List.mem_cons.mp hm with e | e
  · cases e
  · exact h ns w e
theorem nsB_rec {s : List Fr} (h : nsB s) {ns : List Str} {w : Int} (hl : ns.length ≤ 6) : nsB (.rec_ ns w :: s) := fun ns' w' hm => by
  rcases List.mem_cons.mp hm with e | e
  · injection e with e1 e2
    rw [e1]
    exact hl
  · exact h ns' w' e
theorem rowB_tail {f : Fr} {s : List Fr} (h : rowB (f :: s)) : rowB s := fun m hm => h m (List.mem_cons_of_mem _ hm)
theorem nsB_tail {f : Fr} {s : List Fr} (h : nsB (f :: s)) : nsB s := fun ns w hm => h ns w (List.mem_cons_of_mem _ hm)
theorem wf_step {st st' : List Fr × Wt} {x : Str} (h : WfS st) (e : stepS st x = some st') : WfS st' := by
  obtain ⟨s, wt⟩ := st
  obtain ⟨h1, h2, h3, h4⟩ := h
  have h1 : s.length ≤ 3 := h1
  have h2 : rowB s := h2
  have h3 : nsB s := h3
  cases wt with
  | kind =>
    rw [step_kind] at e
    split at e
    · split at e
      · rename_i hl
        obtain rfl := Option.some.inj e
        exact ⟨by show (_ :: s).length ≤ 3; rw [List.length_cons]; omega, rowB_push h2 ⟨by decide, by decide⟩, nsB_push h3, ⟨s, rfl⟩⟩
      · cases e
    · split at e
      · split at e
        · rename_i hl
          obtain rfl := Option.some.inj e
          exact ⟨by show (_ :: s).length ≤ 3; rw [List.length_cons]; omega, rowB_rec h2, nsB_rec h3 (Nat.zero_le _), ⟨s, rfl⟩⟩
        · cases e
      · split at e
        · obtain rfl := Option.some.inj e
          exact closed_wf s 1 h1 h2 h3
        · cases e
  | items =>
    obtain ⟨r, rfl⟩ := h4
    rw [step_items] at e
    split at e
    · rename_i hc
      obtain rfl := Option.some.inj e
      exact ⟨h1, rowB_push (rowB_tail h2) (wholeB_iff hc.1), nsB_push (nsB_tail h3), True.intro⟩
    · cases e
  | paren =>
    obtain ⟨r, rfl⟩ := h4
    rw [step_paren] at e
    split at e
    · obtain rfl := Option.some.inj e
      exact ⟨h1, rowB_rec (rowB_tail h2), nsB_rec (nsB_tail h3) (Nat.zero_le _), ⟨[], 0, r, rfl, by decide⟩⟩
    · cases e
  | name =>
    obtain ⟨ns, w, r, rfl, hn⟩ := h4
    rw [step_name] at e
    split at e
    · obtain rfl := Option.some.inj e
      exact ⟨h1, rowB_rec (rowB_tail h2), nsB_rec (nsB_tail h3) (by rw [List.length_append, List.length_singleton]; omega), True.intro⟩
    · cases e
  | more =>
    obtain ⟨ns, w, r, rfl⟩ := h4
    rw [step_more] at e
    split at e
    · split at e
      · rename_i hc
        obtain rfl := Option.some.inj e
        exact ⟨h1, h2, h3, ⟨ns, w, r, rfl, hc.1⟩⟩
      · cases e
    · split at e
      · obtain rfl := Option.some.inj e
        exact closed_wf r w (by rw [List.length_cons] at h1; omega) (rowB_tail h2) (nsB_tail h3)
      · cases e
  | line =>
    have e : (if x = nlS then some (s, Wt.text) else none) = some st' := by cases s <;> exact e
    split at e
    · obtain rfl := Option.some.inj e
      exact ⟨h1, h2, h3, h4⟩
    · cases e
  | text =>
    have e : (if x = etS then some (s, Wt.done) else none) = some st' := by cases s <;> exact e
    split at e
    · obtain rfl := Option.some.inj e
      exact ⟨h1, h2, h3, h4⟩
    · cases e
  | done =>
    have e : (none : Option (List Fr × Wt)) = some st' := by cases s <;> exact e
    cases e
/-! ### whole numbers, as the law reads them -/
def wholeL (x : Str) : Bool := decide (0 < x.length) && (decide (x.length < 4) && ((tl x).all isDig && !decide ((tl x).getD 0 0 = 48)))
theorem dv_le : ∀ (l : List Nat) (a : Nat), (∀ c ∈ l, 48 ≤ c ∧ c ≤ 57) → a * 10 ^ l.length ≤ l.foldl (fun acc c => acc * 10 + (c - 48)) a
  | [], a, _ => by simp
  | c :: r, a, h => by
    have ih := dv_le r (a * 10 + (c - 48)) fun d hd => h d (List.mem_cons_of_mem _ hd)
    show a * 10 ^ (r.length + 1) ≤ r.foldl _ (a * 10 + (c - 48))
    refine Nat.le_trans ?_ ih
    rw [Nat.pow_succ, Nat.mul_comm (10 ^ r.length) 10, ← Nat.mul_assoc]
    exact Nat.mul_le_mul_right _ (by omega)
theorem wholeL_eq (x : Str) : wholeB x 1 64 = (wholeL x && decide (wv x ≤ 64)) := by
  unfold wholeB wholeL
  cases h3 : (tl x).all isDig with
  | false => cases decide (1 ≤ x.length) <;> cases decide (x.length ≤ 5) <;> cases decide (0 < x.length) <;> cases decide (x.length < 4) <;> rfl
  | true =>
    have hd : ∀ c ∈ tl x, 48 ≤ c ∧ c ≤ 57 := fun c hc => (isDig_iff c).mp (List.all_eq_true.mp h3 c hc)
    have hlen := TL.len_tl x
    by_cases h0 : 1 ≤ x.length
    rotate_left
    · rw [decide_eq_false h0, decide_eq_false (show ¬ 0 < x.length by omega)]
      rfl
    rw [decide_eq_true h0, decide_eq_true (show 0 < x.length by omega)]
    obtain ⟨c, r, e⟩ : ∃ c r, tl x = c :: r := by
      cases e : tl x with
      | nil => rw [e] at hlen; simp at hlen; omega
      | cons c r => exact ⟨c, r, rfl⟩
    have hg : (tl x).getD 0 0 = c := by rw [e]; rfl
    rw [hg]
    have hl2 : x.length = r.length + 1 := by rw [hlen, e, List.length_cons]
    have hv : wv x = ((r.foldl (fun acc c => acc * 10 + (c - 48)) (c - 48) : Nat) : Int) := by
      unfold wv NumText.digitsVal
      rw [e]
      show ((r.foldl _ (0 * 10 + (c - 48)) : Nat) : Int) = _
      rw [Nat.zero_mul, Nat.zero_add]
    by_cases hc : c = 48
    · rw [decide_eq_true hc]
      by_cases hx : x = ("0" : Str)
      · have : wv x = 0 := by rw [hx]; decide +kernel
        rw [this]
        cases decide (x.length ≤ 5) <;> cases decide (x.length < 4) <;> cases decide (x = ("0" : Str)) <;> rfl
      · rw [decide_eq_false hx]
        cases decide (x.length ≤ 5) <;> cases decide (x.length < 4) <;> rfl
    · rw [decide_eq_false hc]
      have hcb := hd c (by rw [e]; exact List.mem_cons_self)
      have lb := dv_le r (c - 48) fun d hd' => hd d (by rw [e]; exact List.mem_cons_of_mem _ hd')
      have lb1 : 10 ^ r.length ≤ r.foldl (fun acc c => acc * 10 + (c - 48)) (c - 48) := Nat.le_trans (by
        have := Nat.mul_le_mul_right (10 ^ r.length) (show 1 ≤ c - 48 by omega)
        omega) lb
      generalize r.foldl (fun acc c => acc * 10 + (c - 48)) (c - 48) = v at *
      have p1 : 1 ≤ 10 ^ r.length := Nat.pos_of_ne_zero (by simp)
      have e1 : decide (1 ≤ wv x) = true := decide_eq_true (by rw [hv]; omega)
      rw [e1]
      by_cases h64 : wv x ≤ 64
      · have hr : r.length < 3 := by
          rcases Nat.lt_or_ge r.length 3 with h | h
          · exact h
          · have := Nat.pow_le_pow_right (show 0 < 10 by decide) h
            rw [hv] at h64
            omega
        rw [decide_eq_true h64, decide_eq_true (show x.length ≤ 5 by omega), decide_eq_true (show x.length < 4 by omega)]
        rfl
      · rw [decide_eq_false h64]
        cases decide (x.length ≤ 5) <;> cases decide (x.length < 4) <;> rfl
/-! ### names, as the law reads them -/
def nameL (x : Str) : Bool := !decide (x = etS) && (decide (x.length ≤ 8) && ((tl x).all isSgn && (!isDig ((tl x).getD 0 0) && !decide (x ∈ wds))))
theorem let_or_dig {c : Nat} (h : isSgn c = true) : isLet c = !isDig c := by
  unfold isSgn at h
  cases hl : isLet c with
  | true =>
    have : isDig c = false := by
      have e : L26.cps.toList = (List.range 26).map (· + 97) := by decide +kernel
      unfold isLet at hl
      rw [e, decide_eq_true_iff, List.mem_map] at hl
      obtain ⟨k, hk, rfl⟩ := hl
      rw [List.mem_range] at hk
      rw [Bool.eq_false_iff]
      intro z
      have := (isDig_iff _).mp z
      omega
    rw [this]
    rfl
  | false =>
    rw [hl, Bool.false_or] at h
    have : isDig c = true := h
    rw [this]
    rfl
theorem ne_et {x : Str} : decide (x = etS) = decide (x.length = 0) := by
  rw [Bool.eq_iff_iff, decide_eq_true_iff, decide_eq_true_iff]
  constructor
  · rintro rfl
    decide +kernel
  · intro h
    refine str_ext ?_
    have := TL.len_tl x
    have e : tl etS = [] := by decide +kernel
    rw [e]
    exact List.length_eq_zero_iff.mp (by omega)
theorem nameL_eq (x : Str) : nameS x = nameL x := by
  unfold nameS nameL
  rw [ne_et]
  by_cases h0 : x.length = 0
  · rw [decide_eq_true h0, decide_eq_false (show ¬ 1 ≤ x.length by omega)]
    rfl
  · rw [decide_eq_false h0, decide_eq_true (show 1 ≤ x.length by omega)]
    cases h3 : (tl x).all isSgn with
    | false => cases decide (x.length ≤ 8) <;> cases isLet ((tl x).getD 0 0) <;> rfl
    | true =>
      have hlen := TL.len_tl x
      obtain ⟨c, r, e⟩ : ∃ c r, tl x = c :: r := by
        cases e : tl x with
        | nil => rw [e] at hlen; simp at hlen; omega
        | cons c r => exact ⟨c, r, rfl⟩
      have hg : (tl x).getD 0 0 = c := by rw [e]; rfl
      rw [hg, let_or_dig (List.all_eq_true.mp h3 c (by rw [e]; exact List.mem_cons_self))]
      cases decide (x.length ≤ 8) <;> cases isDig c <;> rfl
end K3

set_option Elab.async false
set_option linter.all false
set_option pp.maxSteps 700
set_option maxRecDepth 100000
set_option maxHeartbeats 4000000
namespace K3
open PySem PySem.Spec PyProof.Rows L2
open TL (tl)
abbrev sStp : Stmt := top 67
/-! ### a step of the law's reader -/
def FrL (H : Hp) (v : V) : Fr → Prop
  | .row n => ∃ r, v = .ref r ∧ H r = some (.lst [.str "row", .int n, .int 0])
  | .rec_ _ w => ∃ r u, v = .ref r ∧ H r = some (.lst [.str "record", u, .int w])
theorem FrAt.lax {H : Hp} {v : V} {f : Fr} (h : FrAt H v f) : FrL H v f := by
  cases f with
  | row n => exact h
  | rec_ ns w =>
    obtain ⟨r, q, e, h, _⟩ := h
    exact ⟨r, _, e, h⟩
theorem FrL.keep {H H' : Hp} (k : Same H H') {v : V} {f : Fr} (h : FrL H v f) : FrL H' v f := by
  cases f with
  | row n =>
    obtain ⟨r, e, h⟩ := h
    exact ⟨r, e, k _ _ h⟩
  | rec_ ns w =>
    obtain ⟨r, u, e, h⟩ := h
    exact ⟨r, u, e, k _ _ h⟩
/-- the state at p; at a "(" the open record bears a 1 for its names -/
def St2 (H : Hp) (p : Addr) (st : List Fr × Wt) : Prop := ∃ b vs, H p = some (.tup [.ref b, .str (wtS st.2)]) ∧ H b = some (.lst vs) ∧ Paired (FrL H) vs st.1.reverse ∧
  (st.2 = .paren → ∃ us r, vs = us ++ [.ref r] ∧ Paired (FrAt H) us st.1.tail.reverse) ∧ (st.2 ≠ .paren → Paired (FrAt H) vs st.1.reverse)
theorem St2.keep {H H' : Hp} (k : Same H H') {p : Addr} {st : List Fr × Wt} (h : St2 H p st) : St2 H' p st := by
  obtain ⟨b, vs, h1, h2, h3, h4, h5⟩ := h
  refine ⟨b, vs, k _ _ h1, k _ _ h2, Paired.mapP h3 fun _ _ z => z.keep k, fun e => ?_, fun e => Paired.mapP (h5 e) fun _ _ z => z.keep k⟩
  obtain ⟨us, r, e1, e2⟩ := h4 e
  exact ⟨us, r, e1, Paired.mapP e2 fun _ _ z => z.keep k⟩
theorem St2.of {H : Hp} {p : Addr} {st : List Fr × Wt} (h : StAt H p st) (hn : st.2 ≠ .paren) : St2 H p st := by
  obtain ⟨b, h1, vs, h2, h3⟩ := h
  exact ⟨b, vs, h1, h2, Paired.mapP h3 fun _ _ z => z.lax, fun e => absurd e hn, fun _ => h3⟩
theorem closed_np : ∀ (s : List Fr) (w : Int), (closedS s w).2 ≠ .paren
  | [], w => by intro z; cases z
  | .row n :: r, w => closed_np r (w * n)
  | .rec_ ns v :: r, w => by intro z; cases z
def spStp : Sp := fun vs H Q _ => ∃ (a : Addr) (x : Str) (st : List Fr × Wt), vs = [.ref a, .str x] ∧ St2 H a st ∧ WfS st ∧ x.length ≤ 10000 ∧
  (∀ H', Same H H' → stepS st x = none → Q .non H') ∧ (∀ p H' st', Same H H' → stepS st x = some st' → St2 H' p st' → Q (.ref p) H')
structure MgStp (K : PySem.W.Frag) (mg : Str → Option Value) (fClo fWd : Addr) : Prop where
  len : mg "len" = none
  int : mg "int" = none
  clo : mg "_law_closed" = some (.ref fClo)
  kclo : PySem.W.keepIn K (.ref fClo) = true
  wd : mg "_law_tx_words" = some (.ref fWd)
  kwd : PySem.W.keepIn K (.ref fWd) = true
theorem fl_pos : ∀ (s : List Fr), rowB s → s.length ≤ 3 → 1 ≤ (fl s).1 ∧ (fl s).1 ≤ 64 ^ s.length
  | [], _, _ => ⟨Int.le_refl _, by decide⟩
  | .row n :: r, h, hl => by
    obtain ⟨h1, h2⟩ := fl_pos r (rowB_tail h) (by rw [List.length_cons] at hl; omega)
    obtain ⟨h3, h4⟩ := h n List.mem_cons_self
    show 1 ≤ (fl r).1 * n ∧ (fl r).1 * n ≤ 64 ^ (r.length + 1)
    have p1 : 1 * 1 ≤ (fl r).1 * n := Int.mul_le_mul h1 h3 (by decide) (by omega)
    have p2 : (fl r).1 * n ≤ 64 ^ r.length * 64 := Int.mul_le_mul h2 h4 (by omega) (Int.le_of_lt (Int.pow_pos (by decide)))
    rw [Int.pow_succ]
    omega
  | .rec_ ns w :: r, h, hl => by
    obtain ⟨h1, h2⟩ := fl_pos r (rowB_tail h) (by rw [List.length_cons] at hl; omega)
    refine ⟨h1, ?_⟩
    show (fl r).1 ≤ 64 ^ (r.length + 1)
    have : (0 : Int) < 64 ^ r.length := Int.pow_pos (by decide)
    rw [Int.pow_succ]
    omega
theorem fl_small {s : List Fr} (h : rowB s) (hl : s.length ≤ 3) : 1 ≤ (fl s).1 ∧ (fl s).1 ≤ 262144 := by
  obtain ⟨h1, h2⟩ := fl_pos s h hl
  refine ⟨h1, Int.le_trans h2 ?_⟩
  have : s.length = 0 ∨ s.length = 1 ∨ s.length = 2 ∨ s.length = 3 := by omega
  rcases this with e | e | e | e <;> rw [e] <;> decide
theorem fl_snoc {s : List Fr} {i : Nat} {f : Fr} (h : s.reverse[i]? = some f) : (s.reverse.take (i + 1)).reverse = f :: (s.reverse.take i).reverse := by
  rw [List.take_succ, h, List.reverse_append]
  rfl
theorem rowB_take {s : List Fr} (h : rowB s) (i : Nat) : rowB (s.reverse.take i).reverse := fun n hn => h n (List.mem_reverse.mp (List.mem_of_mem_take (List.mem_reverse.mp hn)))
theorem sgn_mem (c : Nat) : decide (c ∈ ("abcdefghijklmnopqrstuvwxyz0123456789" : Str).cps.toList) = isSgn c := by
  have e : ("abcdefghijklmnopqrstuvwxyz0123456789" : Str).cps.toList = L26.cps.toList ++ D10.cps.toList := by decide +kernel
  rw [e]
  unfold isSgn isLet
  rw [Bool.eq_iff_iff, decide_eq_true_iff, Bool.or_eq_true, decide_eq_true_iff, decide_eq_true_iff, List.mem_append]
theorem cut_snoc (us : List V) (v : V) : cutV (us ++ [v]) none (some ((((us ++ [v]).length : Nat) : Int) - 1)) = us := by
  have el : (((us ++ [v]).length : Nat) : Int) - 1 = ((us.length : Nat) : Int) := by
    rw [List.length_append, List.length_singleton]
    omega
  rw [el]
  unfold cutV
  rw [HT.sIx_none, List.drop_zero, HT.sIx_nat]
  have e : min us.length (us ++ [v]).length = us.length := by rw [List.length_append]; omega
  rw [e, Nat.sub_zero, List.take_left]
section
variable {P : Program} {w : World} {K : PySem.W.Frag} {mg : Str → Option Value} {base : Heap}
theorem scStp : FnScope ["state", "word", "stack", "want", "factor", "least", "piece", "right", "last", "signs", "sign"] ["state", "word"] (defScope sStp) := ⟨rfl, rfl, rfl, by decide +kernel, rfl, by decide +kernel, by decide +kernel⟩
theorem ok_stp {f fClo fWd : Addr} {fd fdC fdW : FuncData} (F : Fun K "_law_step" "_law_step" sStp f fd) (T : MgStp K mg fClo fWd) (GC : FnOk P w K mg base CX0 1 fClo fdC ["stack", "words"] spClo) (bC : L2.Binds K fdC ["stack", "words"] [])
    (GW : FnOk P w K mg base CX0 1 fWd fdW [] spWds) (bW : L2.Binds K fdW [] []) : FnOk P w K mg base CX0 2 f fd ["state", "word"] spStp := by
  refine F.ok scStp (fun vs H Q E h => ?_) (fun cdv A outer s H vs Q E hr h => ?_)
  · obtain ⟨a, x, st, rfl, _⟩ := h
    rfl
  · obtain ⟨a, x, ⟨s0, wt⟩, rfl, ⟨b, vs, hp, hb, pl, hpa, hnp⟩, W, hx, k0, k1⟩ := h
    refine ⟨_, (pss_cons (ps_asg (pv 0) (pg_tup (by rfl) (pgs_cons (pg_name (i := 2) scStp.nd rfl (Or.inl rfl)) (pgs_cons (pg_name (i := 3) scStp.nd rfl (Or.inl rfl)) pgs_nil))))
      (pss_cons (ps_asg (pe_tup (pa_cons pe_int (pa_cons pe_int pa_nil))) (pg_tup (by rfl) (pgs_cons (pg_name (i := 4) scStp.nd rfl (Or.inl rfl)) (pgs_cons (pg_name (i := 5) scStp.nd rfl (Or.inl rfl)) pgs_nil))))
      (pss_cons (ps_for PassesOwn.never rfl (pi_list (pv 2)) (pg_name (i := 6) scStp.nd rfl (Or.inl rfl))
          (pss_one (ps_if (pt_cmpR op_eq (pe_ix ix_list (pv 6) pe_int (fun _ _ => rfl)) pe_str (nomark _)) (pss_one (ps_set (i := 5) scStp.nd rfl (Or.inl rfl) (pe_op op_add (pv 5) (pe_op op_mul (pv 4) (pe_ix ix_list (pv 6) pe_int (fun _ _ => rfl)))))) (pss_one (ps_set (i := 4) scStp.nd rfl (Or.inl rfl) (pe_op op_mul (pv 4) (pe_ix ix_list (pv 6) pe_int (fun _ _ => rfl))))))))
      (pss_cons (ps_if (PW.pt (pw_and (pt_cmpR op_eq (pv 3) pe_str (nomark _)) (pw_and1 (pt_cmpR op_in_seq (pv 1) (pe_lst (pa_cons pe_str (pa_cons pe_str pa_nil))) (by rfl))))) (pss_one (ps_ret (pe_ifExp (pt_cmpR op_lt (pe_callB call_len_seq (by rfl) T.len PySem.boot_len (pa_cons (pv 2) pa_nil)) pe_int (nomark _)) (pe_tup (pa_cons (pe_op op_cat (pv 2) (pe_lst (pa_cons (pe_lst (pa_cons (pv 1) (pa_cons pe_int (pa_cons pe_int pa_nil)))) pa_nil))) (pa_cons (pe_ifExp (pt_cmpR op_eq (pv 1) pe_str (nomark _)) pe_str pe_str) pa_nil))) pe_non))) pss_nil)
      (pss_cons (ps_if (pt_cmpR op_eq (pv 3) pe_str (nomark _)) (pss_one (ps_ret (pe_ifExp (pt_cmpR op_in_seq (pv 1) (pe_lst (pa_cons pe_str (pa_cons pe_str pa_nil))) (by rfl)) (pe_call GC hr (by rfl) T.clo T.kclo bC .nil pass0 (pa_cons (pv 2) (pa_cons pe_int pa_nil))) pe_non))) pss_nil)
      (pss_cons (ps_if (pt_cmpR op_eq (pv 3) pe_str (nomark _)) (pss_mid (ps_set (i := 7) scStp.nd rfl (Or.inl rfl) (pe_and (pe_chain op_lt op_lt pe_int (pe_callB call_len_str (by rfl) T.len PySem.boot_len (pa_cons (pv 1) pa_nil)) pe_int) (pe_and (pe_cmpR (op_eqNil hr.units) (pe_lc (own := [("sign", 10)]) (g := gName 10) (by rfl) scStp.nd (pi_str (pv 1)) (blkOk_by (own := [("sign", 10)]) (N := ["state", "word", "stack", "want", "factor", "least", "piece", "right", "last", "signs", "sign"]) (sc := defScope sStp) (by decide +kernel)) (fun _ _ _ _ _ => (pg_name (i := 10) scStp.nd rfl (Or.inl rfl))) (fun _ _ _ _ _ => (pts_one (pt_cmpR op_notIn_sign (pv 10) pe_str (by rfl)))) (fun _ _ _ _ _ => (pv 10))) (pe_lst pa_nil) (nomark _)) (pe_one (pe_cmpR op_ne (pe_ix ix_str (pv 1) pe_int (fun _ _ => rfl)) pe_str (nomark _))))))
          (pss_cons (ps_if (PW.pt (pw_or (pt_not (pt_val (pv 7))) (pw_or (pt_cmpR op_gt (pe_callTy call_int_str (by rfl) T.int (by decide +kernel) (pa_cons (pv 1) pa_nil)) pe_int (nomark _)) (pw_or1 (pt_cmpR op_gt (pe_op op_add (pv 5) (pe_op op_mul (pv 4) (pe_callTy call_int_str (by rfl) T.int (by decide +kernel) (pa_cons (pv 1) pa_nil)))) pe_int (nomark _)))))) (pss_one (ps_ret pe_non)) pss_nil)
          (pss_one (ps_ret (pe_tup (pa_cons (pe_op op_cat (pe_slice sl_list (pv 2) po_none (po_some (pe_op op_sub (pe_callB call_len_seq (by rfl) T.len PySem.boot_len (pa_cons (pv 2) pa_nil)) pe_int))) (pe_lst (pa_cons (pe_lst (pa_cons pe_str (pa_cons (pe_callTy call_int_str (by rfl) T.int (by decide +kernel) (pa_cons (pv 1) pa_nil)) (pa_cons pe_int pa_nil)))) pa_nil))) (pa_cons pe_str pa_nil))))))) pss_nil)
      (pss_cons (ps_if (pt_cmpR op_eq (pv 3) pe_str (nomark _)) (pss_one (ps_ret (pe_ifExp (pt_cmpR op_eq (pv 1) pe_str (nomark _)) (pe_tup (pa_cons (pe_op op_cat (pe_slice sl_list (pv 2) po_none (po_some (pe_op op_sub (pe_callB call_len_seq (by rfl) T.len PySem.boot_len (pa_cons (pv 2) pa_nil)) pe_int))) (pe_lst (pa_cons (pe_lst (pa_cons pe_str (pa_cons (pe_lst pa_nil) (pa_cons pe_int pa_nil)))) pa_nil))) (pa_cons pe_str pa_nil))) pe_non))) pss_nil)
      (pss_cons (ps_set (i := 8) scStp.nd rfl (Or.inl rfl) (pe_ifExp (pt_cmpR (op_neNil hr.units) (pv 2) (pe_lst pa_nil) (nomark _)) (pe_ix ix_list (pv 2) (pe_op op_sub (pe_callB call_len_seq (by rfl) T.len PySem.boot_len (pa_cons (pv 2) pa_nil)) pe_int) (fun _ _ => rfl)) pe_non))
      (pss_cons (ps_if (pt_cmpR op_eq (pv 3) pe_str (nomark _)) (pss_cons (ps_setLc (i := 9) (own := [("sign", 10)]) (g := gName 10) (by rfl) scStp.nd rfl rfl (sw_true rfl rfl rfl (by decide +kernel)) (pi_str (pv 1)) (blkOk_by (own := [("sign", 10)]) (N := ["state", "word", "stack", "want", "factor", "least", "piece", "right", "last", "signs", "sign"]) (sc := defScope sStp) (by decide +kernel)) (fun _ _ _ _ _ => (pg_name (i := 10) scStp.nd rfl (Or.inl rfl))) (fun _ _ _ _ _ => (pts_one (pt_cmpR op_notIn_sign (pv 10) pe_str (by rfl)))) (fun _ _ _ _ _ => (pv 10)))
          (pss_cons (ps_if (PW.pt (pw_or (pt_cmpR op_eq (pv 1) pe_str (nomark _)) (pw_or (pt_cmpR op_gt (pe_callB call_len_str (by rfl) T.len PySem.boot_len (pa_cons (pv 1) pa_nil)) pe_int (nomark _)) (pw_or (pt_cmpR (op_neNil hr.units) (pv 9) (pe_lst pa_nil) (nomark _)) (pw_or (pt_cmpR op_in_sign (pe_ix ix_str (pv 1) pe_int (fun _ _ => rfl)) pe_str (by rfl)) (pw_or1 (pt_cmpR op_in_seq (pv 1) (pe_op op_cat (pe_call0 GW hr (by rfl) T.wd T.kwd bW .nil pass0) (pe_ix ix_list (pv 8) pe_int (fun _ _ => rfl))) (by rfl)))))))) (pss_one (ps_ret pe_non)) pss_nil)
          (pss_one (ps_ret (pe_tup (pa_cons (pe_op op_cat (pe_slice sl_list (pv 2) po_none (po_some (pe_op op_sub (pe_callB call_len_seq (by rfl) T.len PySem.boot_len (pa_cons (pv 2) pa_nil)) pe_int))) (pe_lst (pa_cons (pe_lst (pa_cons pe_str (pa_cons (pe_op op_cat (pe_ix ix_list (pv 8) pe_int (fun _ _ => rfl)) (pe_lst (pa_cons (pv 1) pa_nil))) (pa_cons (pe_ix ix_list (pv 8) pe_int (fun _ _ => rfl)) pa_nil)))) pa_nil))) (pa_cons pe_str pa_nil))))))) pss_nil)
      (pss_cons (ps_if (PW.pt (pw_and (pt_cmpR op_eq (pv 3) pe_str (nomark _)) (pw_and1 (pt_cmpR op_eq (pv 1) pe_str (nomark _))))) (pss_one (ps_ret (pe_ifExp (PW.pt (pw_and (pt_cmpR op_lt (pe_callB call_len_seq (by rfl) T.len PySem.boot_len (pa_cons (pe_ix ix_list (pv 8) pe_int (fun _ _ => rfl)) pa_nil)) pe_int (nomark _)) (pw_and1 (pt_cmpR op_le (pe_op op_add (pv 5) (pv 4)) pe_int (nomark _))))) (pe_tup (pa_cons (pv 2) (pa_cons pe_str pa_nil))) pe_non))) pss_nil)
      (pss_cons (ps_if (PW.pt (pw_and (pt_cmpR op_eq (pv 3) pe_str (nomark _)) (pw_and1 (pt_cmpR op_eq (pv 1) pe_str (nomark _))))) (pss_one (ps_ret (pe_call GC hr (by rfl) T.clo T.kclo bC .nil pass0 (pa_cons (pe_slice sl_list (pv 2) po_none (po_some (pe_op op_sub (pe_callB call_len_seq (by rfl) T.len PySem.boot_len (pa_cons (pv 2) pa_nil)) pe_int))) (pa_cons (pe_ix ix_list (pv 8) pe_int (fun _ _ => rfl)) pa_nil))))) pss_nil)
      (pss_one (ps_ret (pe_ifExp (PW.pt (pw_and (pt_cmpR op_eq (pv 3) pe_str (nomark _)) (pw_and1 (pt_cmpR op_eq (pv 1) pe_str (nomark _))))) (pe_tup (pa_cons (pv 2) (pa_cons pe_str pa_nil))) (pe_ifExp (PW.pt (pw_and (pt_cmpR op_eq (pv 3) pe_str (nomark _)) (pw_and1 (pt_cmpR op_eq (pv 1) pe_str (nomark _))))) (pe_tup (pa_cons (pv 2) (pa_cons pe_str pa_nil))) pe_non))))))))))))))), ?_⟩
    have hp : H a = some (.tup [.ref b, .str (wtS wt)]) := hp
    have pl : Paired (FrL H) vs s0.reverse := pl
    refine ⟨_, rfl, a, _, rfl, SqT.of hp, (by rfl), _, _, rfl, _, _, rfl, rfl, ?_⟩
    refine ⟨(by show 2 ≤ sizeLine; decide), fun q0 hq0 => ?_⟩
    generalize hH1 : upd H q0 _ = H1
    obtain ⟨sq0, eq0⟩ := freshF hq0 hH1
    refine ⟨q0, _, rfl, SqT.of eq0, (by rfl), _, _, rfl, _, _, rfl, rfl, ?_⟩
    have pl1 : Paired (FrL H1) vs s0.reverse := Paired.mapP pl fun _ _ z => z.keep sq0
    have hb1 := sq0 _ _ hb
    have hl0 : s0.length ≤ 3 := W.len
    have hB : rowB s0 := W.row
    refine ⟨_, rfl, b, rfl, ⟨_, SqL.of hb1⟩, for_list (K := K) (a := b) (xs := vs)
      (fun i σ H' => ∃ (pv : Option V), σ = [some (.ref a), some (.str x), some (.ref b), some (.str (wtS wt)), some (.int (fl (s0.reverse.take i).reverse).1), some (.int (fl (s0.reverse.take i).reverse).2), pv, none, none, none, none] ∧ H' = H1) ⟨none, rfl, rfl⟩ (fun i σ H' _ ⟨_, _, e⟩ => by rw [e]; exact SqL.of hb1) ?_ ?_⟩
    · rintro i v σ H' hi ⟨pv, rfl, rfl⟩
      obtain ⟨fr, hfr, hv⟩ := paired_at pl1 hi
      have hB2 := rowB_take hB i
      have hl2 : (s0.reverse.take i).reverse.length ≤ 3 := by
        rw [List.length_reverse, List.length_take, List.length_reverse]
        omega
      obtain ⟨f1, f2⟩ := fl_small hB2 hl2
      have es := fl_snoc hfr
      cases fr with
      | row n =>
        obtain ⟨r, rfl, hr1⟩ := hv
        refine ⟨_, rfl, r, _, 0, _, rfl, rfl, SqL.of hr1, atI_nat (j := 0) rfl, rfl, _, rfl, ?_⟩
        refine iteF ?_
        refine ⟨_, rfl, _, rfl, r, _, 1, _, rfl, rfl, SqL.of hr1, atI_nat (j := 1) rfl, _, _, rfl, rfl, .inl ⟨by omega, by omega⟩, ?_⟩
        exact ⟨_, by rw [es]; rfl, rfl⟩
      | rec_ ns w =>
        obtain ⟨r, u, rfl, hr1⟩ := hv
        refine ⟨_, rfl, r, _, 0, _, rfl, rfl, SqL.of hr1, atI_nat (j := 0) rfl, rfl, _, rfl, ?_⟩
        refine iteT ?_
        refine ⟨_, rfl, _, rfl, _, rfl, r, _, 2, _, rfl, rfl, SqL.of hr1, atI_nat (j := 2) rfl, _, _, rfl, rfl, .inl ⟨by omega, by omega⟩, _, _, rfl, rfl, ?_⟩
        exact ⟨_, by rw [es]; rfl, rfl⟩
    rintro σ H1 ⟨pv, rfl, rfl⟩
    have e0 : (s0.reverse.take vs.length).reverse = s0 := by
      have := paired_len pl1
      rw [this, List.take_length, List.reverse_reverse]
    rw [e0]
    obtain ⟨f1, f2⟩ := fl_small hB hl0
    have lv : vs.length = s0.length := by
      have := paired_len pl1
      rw [List.length_reverse] at this
      exact this
    have zs : x.length ≤ sizeLine := by rw [sizeLine_eq]; omega
    cases wt with
    | kind =>
      have pr : Paired (FrAt H1) vs s0.reverse := Paired.mapP (hnp (by intro z; cases z)) fun _ _ z => z.keep sq0
      refine ⟨_, rfl, rfl, _, rfl, ?_⟩
      refine iteT ?_
      refine ⟨_, rfl, (by show 2 ≤ sizeLine; decide), fun q2 hq2 => ?_⟩
      generalize hH2 : upd H1 q2 _ = H2
      obtain ⟨s2, e2⟩ := freshF hq2 hH2
      refine ⟨q2, _, rfl, .inl (SqL.of e2), rfl, rfl, _, rfl, ?_⟩
      rw [show (if false = true then !inV (V.str x) [V.str "row", V.str "record"] else inV (V.str x) [V.str "row", V.str "record"]) = decide (x ∈ (["row", "record"] : List Str)) from inV_str (ts := ["row", "record"])]
      by_cases hrr : x ∈ (["row", "record"] : List Str)
      · refine ifT (decide_eq_true hrr) ?_
        have hb2 := s2 _ _ hb1
        refine ⟨_, rfl, b, _, rfl, .inl (SqL.of hb2), _, _, rfl, rfl, _, rfl, ?_⟩
        by_cases h3 : s0.length < 3
        rotate_left
        · refine ifF (decide_eq_false (by rw [lv]; omega)) ?_
          refine k0 _ (sq0.trans s2) ?_
          rw [step_kind, if_neg h3, if_neg h3]
          simp only [List.mem_cons, List.not_mem_nil, or_false] at hrr
          rcases hrr with e | e
          · rw [if_pos e]
          · rw [if_neg (by rw [e]; decide +kernel), if_pos e]
        refine ifT (decide_eq_true (by rw [lv]; omega)) ?_
        refine ⟨_, rfl, _, rfl, (by show 3 ≤ sizeLine; decide), fun p1 hp1 => ?_⟩
        generalize hH3 : upd H2 p1 _ = H3
        obtain ⟨s3, e3⟩ := freshF hp1 hH3
        refine ⟨(by show 1 ≤ sizeLine; decide), fun p2 hp2 => ?_⟩
        generalize hH4 : upd H3 p2 _ = H4
        obtain ⟨s4, e4⟩ := freshF hp2 hH4
        refine ⟨b, p2, _, _, rfl, rfl, s4 _ _ (s3 _ _ hb2), e4, (by rw [lv, sizeLine_eq]; show s0.length + 1 ≤ _; omega), fun p3 hp3 => ?_⟩
        generalize hH5 : upd H4 p3 _ = H5
        obtain ⟨s5, e5⟩ := freshF hp3 hH5
        refine ⟨_, rfl, rfl, _, rfl, ?_⟩
        rw [dec_str]
        have s25 := ((s2.trans s3).trans s4).trans s5
        have e3' := s5 _ _ (s4 _ _ e3)
        simp only [List.mem_cons, List.not_mem_nil, or_false] at hrr
        rcases hrr with e | e
        · subst e
          refine ifT rfl ?_
          refine ⟨(by show 2 ≤ sizeLine; decide), fun p4 hp4 => ?_⟩
          have s6 := same_new (o := .tup [V.ref p3, .str "items"]) hp4
          refine k1 p4 _ (.row 1 :: s0, .items) ((sq0.trans s25).trans s6) (by rw [step_kind, if_pos rfl, if_pos h3]) ?_
          have pp : Paired (FrAt (upd H5 p4 (.tup [V.ref p3, .str "items"]))) (vs ++ [.ref p1]) (Fr.row 1 :: s0).reverse := by
            rw [List.reverse_cons]
            exact paired_app (Paired.mapP pr fun _ _ z => z.keep (s25.trans s6)) (.cons ⟨p1, rfl, s6 _ _ e3'⟩ .nil)
          exact ⟨p3, _, upd_same, s6 _ _ e5, Paired.mapP pp fun _ _ z => z.lax, fun z => (by cases z), fun _ => pp⟩
        · subst e
          refine ifF (by decide +kernel) ?_
          refine ⟨(by show 2 ≤ sizeLine; decide), fun p4 hp4 => ?_⟩
          have s6 := same_new (o := .tup [V.ref p3, .str "("]) hp4
          refine k1 p4 _ (.rec_ [] 0 :: s0, .paren) ((sq0.trans s25).trans s6) (by rw [step_kind, if_neg (by decide +kernel), if_pos rfl, if_pos h3]) ?_
          have pp : Paired (FrAt (upd H5 p4 (.tup [V.ref p3, .str "("]))) vs s0.reverse := Paired.mapP pr fun _ _ z => z.keep (s25.trans s6)
          refine ⟨p3, _, upd_same, s6 _ _ e5, ?_, fun _ => ⟨vs, p1, rfl, pp⟩, fun z => absurd rfl z⟩
          show Paired _ _ (Fr.rec_ [] 0 :: s0).reverse
          rw [List.reverse_cons]
          exact paired_app (Paired.mapP pp fun _ _ z => z.lax) (.cons ⟨p1, _, rfl, s6 _ _ e3'⟩ .nil)
      · refine ifF (decide_eq_false hrr) ?_
        refine ⟨_, rfl, rfl, _, rfl, ?_⟩
        refine iteT ?_
        refine ⟨_, rfl, (by show 2 ≤ sizeLine; decide), fun q3 hq3 => ?_⟩
        generalize hH3 : upd H2 q3 _ = H3
        obtain ⟨s3, e3⟩ := freshF hq3 hH3
        refine ⟨q3, _, rfl, .inl (SqL.of e3), rfl, rfl, _, rfl, ?_⟩
        rw [show (if false = true then !inV (V.str x) [V.str "number", V.str "truth"] else inV (V.str x) [V.str "number", V.str "truth"]) = decide (x ∈ (["number", "truth"] : List Str)) from inV_str (ts := ["number", "truth"])]
        simp only [List.mem_cons, List.not_mem_nil, or_false, not_or] at hrr
        have epl : (x ∈ (["number", "truth"] : List Str)) ↔ plainS x = true := by
          unfold plainS
          simp [beq_iff_eq]
        have s13 := (sq0.trans s2).trans s3
        by_cases hpl : plainS x = true
        · refine ifT (decide_eq_true (epl.mpr hpl)) ?_
          refine ⟨_, rfl, b, 1, s0, rfl, ⟨vs, s3 _ _ (s2 _ _ hb1), Paired.mapP pr fun _ _ z => z.keep (s2.trans s3)⟩, hl0, hB, fun p H' s4 st => ?_⟩
          exact k1 p H' _ (s13.trans s4) (by rw [step_kind, if_neg hrr.1, if_neg hrr.2, if_pos hpl]) (St2.of st (closed_np _ _))
        · refine ifF (decide_eq_false fun z => hpl (epl.mp z)) ?_
          refine k0 _ s13 ?_
          rw [step_kind, if_neg hrr.1, if_neg hrr.2, if_neg hpl]
    | items =>
      have pr : Paired (FrAt H1) vs s0.reverse := Paired.mapP (hnp (by intro z; cases z)) fun _ _ z => z.keep sq0
      obtain ⟨r, hr0⟩ := W.top
      have hr0 : s0 = .row 1 :: r := hr0
      refine ⟨_, rfl, rfl, _, rfl, ?_⟩
      refine iteF ?_
      refine ⟨_, rfl, rfl, _, rfl, ?_⟩
      refine iteF ?_
      refine ⟨_, rfl, rfl, _, rfl, ?_⟩
      refine iteT ?_
      refine ⟨fun σ H' => σ = [some (.ref a), some (.str x), some (.ref b), some (.str (wtS .items)), some (.int (fl s0).1), some (.int (fl s0).2), pv, some (.bl (wholeL x)), none, none, none] ∧ Same H1 H', ?_, ?_⟩
      · refine ⟨_, rfl, x, rfl, zs, _, _, rfl, rfl, _, rfl, ?_⟩
        by_cases h1 : 0 < x.length
        rotate_left
        · refine ifF (decide_eq_false (by omega)) ?_
          refine ⟨_, rfl, iteF ?_⟩
          have hw : wholeL x = false := by
            unfold wholeL
            rw [decide_eq_false h1]
            rfl
          rw [hw]
          exact ⟨rfl, Same.refl H1⟩
        refine ifT (decide_eq_true (by omega)) ?_
        refine ⟨_, _, rfl, rfl, _, rfl, ?_⟩
        by_cases h2 : x.length < 4
        rotate_left
        · refine ifF (decide_eq_false (by omega)) ?_
          have hw : wholeL x = false := by
            unfold wholeL
            rw [decide_eq_false h2, Bool.false_and, Bool.and_false]
          rw [hw]
          exact ⟨rfl, Same.refl H1⟩
        refine ifT (decide_eq_true (by omega)) ?_
        refine ⟨_, rfl, x, rfl, fun D hD => lc_it walk_str (fun i H' => ∃ ys, H' D = some (.lst ys) ∧ ys.isEmpty = ((tl x).take i).all isDig ∧ ys.length ≤ i ∧ Same H1 H') ⟨[], upd_same, rfl, Nat.le_refl _, same_new hD⟩ (fun _ _ _ _ => True.intro) ?_ ?_⟩
        · rintro i v H2 H3 hi ⟨ys, h4, h5, h6, s1⟩ ⟨rfl, c, hc, rfl⟩
          refine ⟨rfl, ?_⟩
          refine ⟨_, rfl, c, _, rfl, rfl, _, rfl, ?_⟩
          have hc' : (tl x)[i]? = some c := by
            rw [← hc, ← Array.getElem?_toList]
          have et : ((tl x).take (i + 1)).all isDig = (((tl x).take i).all isDig && isDig c) := by
            rw [List.take_succ, hc', List.all_append]
            simp
          have hix : i < x.length := by
            rw [TL.len_tl]
            exact (List.getElem?_eq_some_iff.mp hc').1
          cases hd : isDig c with
          | true =>
            refine ifF (by show (!isDig c) = false; rw [hd]; rfl) ?_
            exact ⟨ys, h4, by rw [et, hd, Bool.and_true]; exact h5, by omega, s1⟩
          | false =>
            refine ifT (by show (!isDig c) = true; rw [hd]; rfl) ?_
            refine ⟨_, rfl, ys, h4, by rw [sizeLine_eq]; omega, _, upd_same, ?_, by rw [List.length_append, List.length_singleton]; omega, fun b' o e => ?_⟩
            · rw [et, hd, Bool.and_false]
              simp
            · rw [upd_ne (ne_of_none e hD)]
              exact s1 _ _ e
        rintro H2 ⟨ys, h4, h5, h6, s2⟩
        have e1 : (tl x).take x.cps.size = tl x := by
          have : (tl x).length = x.cps.size := Array.length_toList
          rw [← this, List.take_length]
        rw [e1] at h5
        refine ⟨Nat.zero_le _, fun q hq => ?_⟩
        generalize hH3 : upd H2 q _ = H3
        obtain ⟨s3, e3⟩ := freshF hq hH3
        refine ⟨D, q, ys, rfl, rfl, SqL.of (s3 _ _ h4), SqL.of e3, _, rfl, ?_⟩
        rw [h5]
        have wl : wholeL x = ((tl x).all isDig && !decide ((tl x).getD 0 0 = 48)) := by
          unfold wholeL
          rw [decide_eq_true h1, decide_eq_true h2]
          rfl
        rw [wl]
        cases (tl x).all isDig with
        | false => exact iteF ⟨rfl, s2.trans s3⟩
        | true =>
          refine iteT ?_
          refine ⟨_, rfl, x, 0, _, rfl, rfl, zs, first_sign h1, rfl, ?_⟩
          have e48 : decide (V.str ⟨#[(tl x).getD 0 0]⟩ = V.str ("0" : Str)) = decide ((tl x).getD 0 0 = 48) := by
            rw [Bool.eq_iff_iff, decide_eq_true_iff, decide_eq_true_iff]
            exact one_eq _
          rw [← e48]
          exact ⟨rfl, s2.trans s3⟩
      · rintro σ H2 ⟨rfl, s2⟩
        have s02 := sq0.trans s2
        refine ⟨_, rfl, wholeL x, rfl, ?_⟩
        have no : ¬ (wholeB x 1 64 = true ∧ (fl s0).2 + (fl s0).1 * wv x ≤ 400) → Q .non H2 := fun h => k0 _ s02 (by rw [step_items, if_neg h])
        cases hw : wholeL x with
        | false =>
          refine iteT ?_
          refine no fun z => ?_
          rw [wholeL_eq, hw] at z
          cases z.1
        | true =>
          refine iteF ?_
          have hw2 := hw
          unfold wholeL at hw2
          simp only [Bool.and_eq_true, decide_eq_true_iff] at hw2
          have wt := wv_text (x := x) (by omega) (by omega) hw2.2.2.1
          have l640 : x.length ≤ 640 := by omega
          refine ⟨_, rfl, x, _, rfl, wt, l640, _, _, rfl, rfl, _, rfl, ?_⟩
          by_cases h64 : wv x ≤ 64
          rotate_left
          · refine ifT (decide_eq_true (by omega)) ?_
            refine no fun z => ?_
            rw [wholeL_eq, hw, decide_eq_false h64] at z
            cases z.1
          refine ifF (decide_eq_false (by omega)) ?_
          have hwB : wholeB x 1 64 = true := by rw [wholeL_eq, hw, decide_eq_true h64]; rfl
          have hwv := wholeB_iff hwB
          refine ⟨_, rfl, _, rfl, _, rfl, x, _, rfl, wt, l640, _, _, rfl, rfl, .inl ⟨by omega, by omega⟩, _, _, rfl, rfl, _, _, rfl, rfl, _, rfl, ?_⟩
          by_cases h400 : (fl s0).2 + (fl s0).1 * wv x ≤ 400
          rotate_left
          · refine ifT (decide_eq_true (by omega)) ?_
            exact no fun z => h400 z.2
          refine ifF (decide_eq_false (by omega)) ?_
          rw [hr0, List.reverse_cons] at pr
          obtain ⟨us, v, hvs, pu, hv⟩ := paired_snoc pr
          subst hvs
          have hb2 := s2 _ _ hb1
          have ec : cutV (us ++ [v]) none (some ((((us ++ [v]).length : Nat) : Int) - 1)) = us := cut_snoc us v
          refine ⟨_, rfl, _, rfl, b, _, rfl, .inl (SqL.of hb2), _, _, rfl, rfl, _, rfl, b, _, rfl, SqL.of hb2, fun p hp => ?_⟩
          rw [ec]
          generalize hH3 : upd H2 p _ = H3
          obtain ⟨s3, e3⟩ := freshF hp hH3
          refine ⟨_, rfl, x, _, rfl, wt, l640, (by show 3 ≤ sizeLine; decide), fun p1 hp1 => ?_⟩
          generalize hH4 : upd H3 p1 _ = H4
          obtain ⟨s4, e4⟩ := freshF hp1 hH4
          refine ⟨(by show 1 ≤ sizeLine; decide), fun p2 hp2 => ?_⟩
          generalize hH5 : upd H4 p2 _ = H5
          obtain ⟨s5, e5⟩ := freshF hp2 hH5
          have lu : us.length = r.length := by
            have := paired_len pu
            rw [List.length_reverse] at this
            exact this
          refine ⟨p, p2, _, _, rfl, rfl, s5 _ _ (s4 _ _ e3), e5, (by rw [lu, sizeLine_eq]; show r.length + 1 ≤ _; rw [hr0, List.length_cons] at hl0; omega), fun p3 hp3 => ?_⟩
          generalize hH6 : upd H5 p3 _ = H6
          obtain ⟨s6, e6⟩ := freshF hp3 hH6
          refine ⟨(by show 2 ≤ sizeLine; decide), fun p4 hp4 => ?_⟩
          have s7 := same_new (o := .tup [V.ref p3, .str "kind"]) hp4
          have s27 := ((((s3.trans s4).trans s5).trans s6).trans s7)
          refine k1 p4 _ (.row (wv x) :: r, .kind) (s02.trans s27) (by rw [step_items, if_pos ⟨hwB, h400⟩, hr0]; rfl) ?_
          refine St2.of ⟨p3, upd_same, _, s7 _ _ e6, ?_⟩ (by intro z; cases z)
          show Paired _ _ (Fr.row (wv x) :: r).reverse
          rw [List.reverse_cons]
          exact paired_app (Paired.mapP pu fun _ _ z => z.keep (s2.trans s27)) (.cons ⟨p1, rfl, s7 _ _ (s6 _ _ (s5 _ _ e4))⟩ .nil)
    | paren =>
      obtain ⟨r, hr0⟩ := W.top
      have hr0 : s0 = .rec_ [] 0 :: r := hr0
      obtain ⟨us, rr, hvs, pu⟩ := hpa rfl
      subst hvs
      have pu : Paired (FrAt H) us r.reverse := by
        rw [hr0] at pu
        exact pu
      refine ⟨_, rfl, rfl, _, rfl, ?_⟩
      refine iteF ?_
      refine ⟨_, rfl, rfl, _, rfl, ?_⟩
      refine iteF ?_
      refine ⟨_, rfl, rfl, _, rfl, ?_⟩
      refine iteF ?_
      refine ⟨_, rfl, rfl, _, rfl, ?_⟩
      refine iteT ?_
      refine ⟨_, rfl, rfl, _, rfl, ?_⟩
      rw [dec_str]
      by_cases cx : x = ("(" : Str)
      rotate_left
      · refine ifF (decide_eq_false cx) ?_
        exact k0 _ sq0 (by rw [step_paren, if_neg cx])
      refine ifT (decide_eq_true cx) ?_
      have ec : cutV (us ++ [V.ref rr]) none (some ((((us ++ [V.ref rr]).length : Nat) : Int) - 1)) = us := cut_snoc us _
      refine ⟨_, rfl, _, rfl, b, _, rfl, .inl (SqL.of hb1), _, _, rfl, rfl, _, rfl, b, _, rfl, SqL.of hb1, fun p hp => ?_⟩
      rw [ec]
      generalize hH3 : upd H1 p _ = H3
      obtain ⟨s3, e3⟩ := freshF hp hH3
      refine ⟨Nat.zero_le _, fun q hq => ?_⟩
      generalize hH4 : upd H3 q _ = H4
      obtain ⟨s4, e4⟩ := freshF hq hH4
      refine ⟨(by show 3 ≤ sizeLine; decide), fun p1 hp1 => ?_⟩
      generalize hH5 : upd H4 p1 _ = H5
      obtain ⟨s5, e5⟩ := freshF hp1 hH5
      refine ⟨(by show 1 ≤ sizeLine; decide), fun p2 hp2 => ?_⟩
      generalize hH6 : upd H5 p2 _ = H6
      obtain ⟨s6, e6⟩ := freshF hp2 hH6
      have lu : us.length = r.length := by
        have := paired_len pu
        rw [List.length_reverse] at this
        exact this
      refine ⟨p, p2, _, _, rfl, rfl, s6 _ _ (s5 _ _ (s4 _ _ e3)), e6, (by rw [lu, sizeLine_eq]; show r.length + 1 ≤ _; rw [hr0, List.length_cons] at hl0; omega), fun p3 hp3 => ?_⟩
      generalize hH7 : upd H6 p3 _ = H7
      obtain ⟨s7, e7⟩ := freshF hp3 hH7
      refine ⟨(by show 2 ≤ sizeLine; decide), fun p4 hp4 => ?_⟩
      have s8 := same_new (o := .tup [V.ref p3, .str "name"]) hp4
      have s38 := (((((s3.trans s4).trans s5).trans s6).trans s7).trans s8)
      refine k1 p4 _ (.rec_ [] 0 :: r, .name) (sq0.trans s38) (by rw [step_paren, if_pos cx, hr0]; rfl) ?_
      refine St2.of ⟨p3, upd_same, _, s8 _ _ e7, ?_⟩ (by intro z; cases z)
      show Paired _ _ (Fr.rec_ [] 0 :: r).reverse
      rw [List.reverse_cons]
      exact paired_app (Paired.mapP pu fun _ _ z => z.keep (sq0.trans s38)) (.cons ⟨p1, q, rfl, s8 _ _ (s7 _ _ (s6 _ _ e5)), s8 _ _ (s7 _ _ (s6 _ _ (s5 _ _ e4)))⟩ .nil)
    | name =>
      have pr : Paired (FrAt H1) vs s0.reverse := Paired.mapP (hnp (by intro z; cases z)) fun _ _ z => z.keep sq0
      obtain ⟨ns, w0, r, hr0, hn6⟩ := W.top
      have hr0 : s0 = .rec_ ns w0 :: r := hr0
      have pr := pr
      rw [hr0, List.reverse_cons] at pr
      obtain ⟨us, v, hvs, pu, hv⟩ := paired_snoc pr
      subst hvs
      have lu : us.length = r.length := by
        have := paired_len pu
        rw [List.length_reverse] at this
        exact this
      have el1 : (((us ++ [v]).length : Nat) : Int) - 1 = ((us.length : Nat) : Int) := by
        rw [List.length_append, List.length_singleton]
        omega
      have hat : atI (us ++ [v]) ((((us ++ [v]).length : Nat) : Int) - 1) = some v := by
        rw [el1]
        exact atI_nat (by rw [List.getElem?_append_right (Nat.le_refl _), Nat.sub_self]; rfl)
      have ec : cutV (us ++ [v]) none (some ((((us ++ [v]).length : Nat) : Int) - 1)) = us := cut_snoc us v
      have hr3 : r.length < 3 := by
        rw [hr0, List.length_cons] at hl0
        omega
      refine ⟨_, rfl, rfl, _, rfl, ?_⟩
      refine iteF ?_
      refine ⟨_, rfl, rfl, _, rfl, ?_⟩
      refine iteF ?_
      refine ⟨_, rfl, rfl, _, rfl, ?_⟩
      refine iteF ?_
      refine ⟨_, rfl, rfl, _, rfl, ?_⟩
      refine iteF ?_
      refine ⟨_, rfl, Nat.zero_le _, fun ql hql => ?_⟩
      generalize hHl : upd H1 ql _ = Hl
      obtain ⟨sl, el⟩ := freshF hql hHl
      have hbl := sl _ _ hb1
      refine ⟨b, ql, _, rfl, rfl, SqL.of hbl, SqL.of el, _, rfl, ?_⟩
      refine ifT (by simp) ?_
      refine ⟨_, rfl, _, rfl, b, _, rfl, .inl (SqL.of hbl), _, _, rfl, rfl, b, _, _, _, rfl, rfl, SqL.of hbl, hat, ?_⟩
      refine ⟨_, rfl, rfl, _, rfl, ?_⟩
      refine iteT ?_
      refine ⟨_, rfl, x, rfl, fun D hD => lc_it walk_str (fun i H' => ∃ ys, H' D = some (.lst ys) ∧ ys.isEmpty = ((tl x).take i).all isSgn ∧ ys.length ≤ i ∧ Same Hl H') ⟨[], upd_same, rfl, Nat.le_refl _, same_new hD⟩ (fun _ _ _ _ => True.intro) ?_ ?_⟩
      · rintro i v' H2 H3 hi ⟨ys, h4, h5, h6, s1⟩ ⟨rfl, c, hc, rfl⟩
        refine ⟨rfl, ?_⟩
        refine ⟨_, rfl, c, _, rfl, rfl, _, rfl, ?_⟩
        have hc' : (tl x)[i]? = some c := by
          rw [← hc, ← Array.getElem?_toList]
        have et : ((tl x).take (i + 1)).all isSgn = (((tl x).take i).all isSgn && isSgn c) := by
          rw [List.take_succ, hc', List.all_append]
          simp
        have hix : i < x.length := by
          rw [TL.len_tl]
          exact (List.getElem?_eq_some_iff.mp hc').1
        have esg : decide (c ∈ ("abcdefghijklmnopqrstuvwxyz0123456789" : Str).cps.toList) = isSgn c := sgn_mem c
        rw [esg]
        cases hd : isSgn c with
        | true =>
          refine ifF rfl ?_
          exact ⟨ys, h4, by rw [et, hd, Bool.and_true]; exact h5, by omega, s1⟩
        | false =>
          refine ifT rfl ?_
          refine ⟨_, rfl, ys, h4, by rw [sizeLine_eq]; omega, _, upd_same, ?_, by rw [List.length_append, List.length_singleton]; omega, fun b' o e => ?_⟩
          · rw [et, hd, Bool.and_false]
            simp
          · rw [upd_ne (ne_of_none e hD)]
            exact s1 _ _ e
      rintro H2 ⟨ys, h4, h5, h6, s2⟩
      have e1 : (tl x).take x.cps.size = tl x := by
        have : (tl x).length = x.cps.size := Array.length_toList
        rw [← this, List.take_length]
      rw [e1] at h5
      have s02 := (sq0.trans sl).trans s2
      have no : ∀ H', Same H2 H' → ¬ (nameS x = true ∧ x ∉ ns) → Q .non H' := fun H' s h => k0 _ (s02.trans s) (by rw [hr0, step_name, if_neg h])
      have nl := nameL_eq x
      unfold nameL at nl
      refine ⟨_, rfl, rfl, _, rfl, ?_⟩
      rw [dec_str]
      by_cases c1 : x = etS
      · refine ifT (decide_eq_true c1) ?_
        refine no _ (Same.refl _) fun z => ?_
        rw [nl, decide_eq_true c1] at z
        cases z.1
      refine ifF (decide_eq_false c1) ?_
      rw [decide_eq_false c1] at nl
      refine ⟨_, rfl, x, rfl, zs, _, _, rfl, rfl, _, rfl, ?_⟩
      by_cases c2 : x.length ≤ 8
      rotate_left
      · refine ifT (decide_eq_true (by omega)) ?_
        refine no _ (Same.refl _) fun z => ?_
        rw [nl, decide_eq_false c2] at z
        cases z.1
      refine ifF (decide_eq_false (by omega)) ?_
      rw [decide_eq_true c2] at nl
      refine ⟨_, rfl, Nat.zero_le _, fun q hq => ?_⟩
      generalize hH3 : upd H2 q _ = H3
      obtain ⟨s3, e3⟩ := freshF hq hH3
      refine ⟨D, q, ys, rfl, rfl, SqL.of (s3 _ _ h4), SqL.of e3, _, rfl, ?_⟩
      rw [h5]
      cases c3 : (tl x).all isSgn with
      | false =>
        refine ifT rfl ?_
        refine no _ s3 fun z => ?_
        rw [nl, c3] at z
        cases z.1
      | true =>
      refine ifF rfl ?_
      rw [c3] at nl
      have x1 : 1 ≤ x.length := by
        rcases Nat.eq_zero_or_pos x.length with e | e
        · exact absurd (of_decide_eq_true (by rw [ne_et]; exact decide_eq_true e)) c1
        · exact e
      refine ⟨_, rfl, x, 0, _, rfl, rfl, zs, first_sign x1, _, _, rfl, rfl, _, rfl, ?_⟩
      cases c4 : isDig ((tl x).getD 0 0) with
      | true =>
        refine ifT c4 ?_
        refine no _ s3 fun z => ?_
        rw [nl, c4] at z
        cases z.1
      | false =>
      refine ifF c4 ?_
      rw [c4] at nl
      refine ⟨_, rfl, rfl, fun pw H4 s4 hpw0 hpw => ?_⟩
      have s24 := s3.trans s4
      obtain ⟨rr, qu, rfl, hr1, hu⟩ := hv
      have hr2 := s24 _ _ (s2 _ _ (sl _ _ hr1))
      have hu2 := s24 _ _ (s2 _ _ (sl _ _ hu))
      refine ⟨_, rfl, rr, _, 1, _, rfl, rfl, SqL.of hr2, atI_nat (j := 1) rfl, ?_⟩
      refine ⟨pw, qu, _, _, rfl, rfl, hpw, hu2, (by rw [List.length_map, List.length_map, sizeLine_eq]; show 30 + ns.length ≤ _; omega), fun p5 hp5 => ?_⟩
      generalize hH5 : upd H4 p5 _ = H5
      obtain ⟨s5, e5⟩ := freshF hp5 hH5
      rw [← List.map_append] at e5
      refine ⟨p5, _, rfl, .inl (SqL.of e5), rfl, str_flat _, _, rfl, ?_⟩
      rw [show (if false = true then !inV (V.str x) ((wds ++ ns).map V.str) else inV (V.str x) ((wds ++ ns).map V.str)) = decide (x ∈ wds ++ ns) from inV_str]
      by_cases c5 : x ∈ wds ++ ns
      · refine ifT (decide_eq_true c5) ?_
        refine no _ (s24.trans s5) fun z => ?_
        rcases List.mem_append.mp c5 with e | e
        · rw [nl, decide_eq_true e] at z
          cases z.1
        · exact z.2 e
      refine ifF (decide_eq_false c5) ?_
      rw [List.mem_append, not_or] at c5
      rw [decide_eq_false c5.1] at nl
      have s25 := s24.trans s5
      have hb5 := s25 _ _ (s2 _ _ hbl)
      have hr5 := s5 _ _ hr2
      have hu5 := s5 _ _ hu2
      refine ⟨_, rfl, _, rfl, b, _, rfl, .inl (SqL.of hb5), _, _, rfl, rfl, _, rfl, b, _, rfl, SqL.of hb5, fun p hp => ?_⟩
      rw [ec]
      generalize hH6 : upd H5 p _ = H6
      obtain ⟨s6, e6⟩ := freshF hp hH6
      refine ⟨_, rfl, rr, _, 1, _, rfl, rfl, SqL.of (s6 _ _ hr5), atI_nat (j := 1) rfl, ?_⟩
      refine ⟨_, rfl, (by show 1 ≤ sizeLine; decide), fun p1 hp1 => ?_⟩
      generalize hH7 : upd H6 p1 _ = H7
      obtain ⟨s7, e7⟩ := freshF hp1 hH7
      have s57 := s6.trans s7
      refine ⟨qu, p1, _, _, rfl, rfl, s57 _ _ hu5, e7, (by rw [List.length_map, sizeLine_eq]; show ns.length + 1 ≤ _; omega), fun p2 hp2 => ?_⟩
      generalize hH8 : upd H7 p2 _ = H8
      obtain ⟨s8, e8⟩ := freshF hp2 hH8
      have s58 := s57.trans s8
      refine ⟨_, rfl, rr, _, 2, _, rfl, rfl, SqL.of (s58 _ _ hr5), atI_nat (j := 2) rfl, (by show 3 ≤ sizeLine; decide), fun p3 hp3 => ?_⟩
      generalize hH9 : upd H8 p3 _ = H9
      obtain ⟨s9, e9⟩ := freshF hp3 hH9
      refine ⟨(by show 1 ≤ sizeLine; decide), fun p4 hp4 => ?_⟩
      generalize hHa : upd H9 p4 _ = Ha
      obtain ⟨sa, ea⟩ := freshF hp4 hHa
      refine ⟨p, p4, _, _, rfl, rfl, sa _ _ (s9 _ _ (s8 _ _ (s7 _ _ e6))), ea, (by rw [lu, sizeLine_eq]; show r.length + 1 ≤ _; omega), fun p6 hp6 => ?_⟩
      generalize hHb : upd Ha p6 _ = Hb
      obtain ⟨sb, eb⟩ := freshF hp6 hHb
      refine ⟨(by show 2 ≤ sizeLine; decide), fun p7 hp7 => ?_⟩
      have sc := same_new (o := .tup [V.ref p6, .str "kind"]) hp7
      have s8c := ((s9.trans sa).trans sb).trans sc
      have sl7 := ((sl.trans s2).trans s25).trans (s58.trans s8c)
      refine k1 p7 _ (.rec_ (ns ++ [x]) w0 :: r, .kind) (sq0.trans sl7) (by rw [hr0, step_name, if_pos ⟨nl, c5.2⟩]) ?_
      refine St2.of ⟨p6, upd_same, _, sc _ _ eb, ?_⟩ (by intro z; cases z)
      show Paired _ _ (Fr.rec_ (ns ++ [x]) w0 :: r).reverse
      rw [List.reverse_cons]
      refine paired_app (Paired.mapP pu fun _ _ z => z.keep sl7) (.cons ⟨p3, p2, rfl, sc _ _ (sb _ _ (sa _ _ e9)), ?_⟩ .nil)
      rw [List.map_append]
      exact s8c _ _ e8
    | more =>
      have pr : Paired (FrAt H1) vs s0.reverse := Paired.mapP (hnp (by intro z; cases z)) fun _ _ z => z.keep sq0
      obtain ⟨ns, w0, r, hr0⟩ := W.top
      have hr0 : s0 = .rec_ ns w0 :: r := hr0
      have pr := pr
      rw [hr0, List.reverse_cons] at pr
      obtain ⟨us, v, hvs, pu, hv⟩ := paired_snoc pr
      subst hvs
      have lu : us.length = r.length := by
        have := paired_len pu
        rw [List.length_reverse] at this
        exact this
      have el1 : (((us ++ [v]).length : Nat) : Int) - 1 = ((us.length : Nat) : Int) := by
        rw [List.length_append, List.length_singleton]
        omega
      have hat : atI (us ++ [v]) ((((us ++ [v]).length : Nat) : Int) - 1) = some v := by
        rw [el1]
        exact atI_nat (by rw [List.getElem?_append_right (Nat.le_refl _), Nat.sub_self]; rfl)
      have ec : cutV (us ++ [v]) none (some ((((us ++ [v]).length : Nat) : Int) - 1)) = us := cut_snoc us v
      have hr3 : r.length < 3 := by
        rw [hr0, List.length_cons] at hl0
        omega
      refine ⟨_, rfl, rfl, _, rfl, ?_⟩
      refine iteF ?_
      refine ⟨_, rfl, rfl, _, rfl, ?_⟩
      refine iteF ?_
      refine ⟨_, rfl, rfl, _, rfl, ?_⟩
      refine iteF ?_
      refine ⟨_, rfl, rfl, _, rfl, ?_⟩
      refine iteF ?_
      refine ⟨_, rfl, Nat.zero_le _, fun ql hql => ?_⟩
      generalize hHl : upd H1 ql _ = Hl
      obtain ⟨sl, el⟩ := freshF hql hHl
      have hbl := sl _ _ hb1
      refine ⟨b, ql, _, rfl, rfl, SqL.of hbl, SqL.of el, _, rfl, ?_⟩
      refine ifT (by simp) ?_
      refine ⟨_, rfl, _, rfl, b, _, rfl, .inl (SqL.of hbl), _, _, rfl, rfl, b, _, _, _, rfl, rfl, SqL.of hbl, hat, ?_⟩
      obtain ⟨rr, qu, rfl, hr1, hu⟩ := hv
      have hr2 := sl _ _ hr1
      have hu2 := sl _ _ hu
      have s0l := sq0.trans sl
      refine ⟨_, rfl, rfl, _, rfl, ?_⟩
      refine iteF ?_
      refine ⟨_, rfl, rfl, _, rfl, ?_⟩
      refine iteT ?_
      refine ⟨_, rfl, rfl, _, rfl, ?_⟩
      rw [dec_str]
      by_cases c1 : x = ("," : Str)
      · refine ifT (decide_eq_true c1) ?_
        refine ⟨_, rfl, rr, _, 1, _, rfl, rfl, SqL.of hr2, atI_nat (j := 1) rfl, ?_⟩
        refine ⟨qu, _, rfl, .inl (SqL.of hu2), _, _, rfl, rfl, _, rfl, ?_⟩
        rw [List.length_map]
        by_cases c2 : ns.length < 6
        rotate_left
        · refine ifF (decide_eq_false (by omega)) ?_
          refine iteF ?_
          exact k0 _ s0l (by rw [hr0, step_more, if_pos c1, if_neg (fun z => c2 z.1)])
        refine ifT (decide_eq_true (by omega)) ?_
        refine ⟨_, rfl, _, rfl, _, _, rfl, rfl, _, _, rfl, rfl, _, rfl, ?_⟩
        by_cases c3 : (fl s0).2 + (fl s0).1 ≤ 400
        rotate_left
        · refine ifF (decide_eq_false c3) ?_
          exact k0 _ s0l (by rw [hr0, step_more, if_pos c1, if_neg (fun z => c3 (by rw [hr0]; exact z.2))])
        refine ifT (decide_eq_true c3) ?_
        refine ⟨_, rfl, (by show 2 ≤ sizeLine; decide), fun p hp => ?_⟩
        have s3 := same_new (o := .tup [V.ref b, .str "name"]) hp
        refine k1 p _ (.rec_ ns w0 :: r, .name) (s0l.trans s3) (by rw [hr0, step_more, if_pos c1, if_pos ⟨c2, by rw [← hr0]; exact c3⟩]) ?_
        refine St2.of ⟨b, upd_same, _, s3 _ _ hbl, ?_⟩ (by intro z; cases z)
        show Paired _ _ (Fr.rec_ ns w0 :: r).reverse
        rw [List.reverse_cons]
        exact paired_app (Paired.mapP pu fun _ _ z => z.keep (sl.trans s3)) (.cons ⟨rr, qu, rfl, s3 _ _ hr2, s3 _ _ hu2⟩ .nil)
      refine ifF (decide_eq_false c1) ?_
      refine ⟨_, rfl, rfl, _, rfl, ?_⟩
      refine iteT ?_
      refine ⟨_, rfl, rfl, _, rfl, ?_⟩
      rw [dec_str]
      by_cases c2 : x = (")" : Str)
      · refine ifT (decide_eq_true c2) ?_
        refine ⟨_, rfl, _, rfl, b, _, rfl, .inl (SqL.of hbl), _, _, rfl, rfl, _, rfl, b, _, rfl, SqL.of hbl, fun p hp => ?_⟩
        rw [ec]
        generalize hH3 : upd Hl p _ = H3
        obtain ⟨s3, e3⟩ := freshF hp hH3
        refine ⟨_, rfl, rr, _, 2, _, rfl, rfl, SqL.of (s3 _ _ hr2), atI_nat (j := 2) rfl, ?_⟩
        refine ⟨p, w0, r, rfl, ⟨us, e3, Paired.mapP pu fun _ _ z => z.keep (sl.trans s3)⟩, by omega, by rw [hr0] at hB; exact rowB_tail hB, fun p' H' s4 st => ?_⟩
        exact k1 p' H' _ ((s0l.trans s3).trans s4) (by rw [hr0, step_more, if_neg c1, if_pos c2]) (St2.of st (closed_np _ _))
      refine ifF (decide_eq_false c2) ?_
      refine ⟨_, rfl, rfl, _, rfl, ?_⟩
      refine iteF ?_
      refine ⟨_, rfl, rfl, _, rfl, ?_⟩
      refine iteF ?_
      exact k0 _ s0l (by rw [hr0, step_more, if_neg c1, if_neg c2])
    | line =>
      have hr0 : s0 = [] := W.top
      have ev : vs = [] := List.length_eq_zero_iff.mp (by rw [lv, hr0]; rfl)
      subst ev
      have pr : Paired (FrAt H1) [] s0.reverse := Paired.mapP (hnp (by intro z; cases z)) fun _ _ z => z.keep sq0
      refine ⟨_, rfl, rfl, _, rfl, ?_⟩
      refine iteF ?_
      refine ⟨_, rfl, rfl, _, rfl, ?_⟩
      refine iteF ?_
      refine ⟨_, rfl, rfl, _, rfl, ?_⟩
      refine iteF ?_
      refine ⟨_, rfl, rfl, _, rfl, ?_⟩
      refine iteF ?_
      refine ⟨_, rfl, Nat.zero_le _, fun ql hql => ?_⟩
      generalize hHl : upd H1 ql _ = Hl
      obtain ⟨sl, el⟩ := freshF hql hHl
      have hbl := sl _ _ hb1
      refine ⟨b, ql, _, rfl, rfl, SqL.of hbl, SqL.of el, _, rfl, ?_⟩
      refine ifF rfl ?_
      refine ⟨_, rfl, rfl, _, rfl, ?_⟩
      refine iteF ?_
      refine ⟨_, rfl, rfl, _, rfl, ?_⟩
      refine iteF ?_
      refine ⟨_, rfl, rfl, _, rfl, ?_⟩
      refine iteF ?_
      refine ⟨_, rfl, rfl, _, rfl, ?_⟩
      refine iteT ?_
      refine ⟨_, rfl, rfl, _, rfl, ?_⟩
      rw [dec_str]
      have st : ∀ y, stepS (s0, .line) y = if y = nlS then some (s0, .text) else none := fun y => by rw [hr0]; rfl
      by_cases c1 : x = nlS
      · refine ifT (decide_eq_true c1) ?_
        refine ⟨_, rfl, (by show 2 ≤ sizeLine; decide), fun p hp => ?_⟩
        have s3 := same_new (o := .tup [V.ref b, .str "text"]) hp
        refine k1 p _ (s0, .text) ((sq0.trans sl).trans s3) (by rw [st, if_pos c1]) ?_
        exact St2.of ⟨b, upd_same, _, s3 _ _ hbl, Paired.mapP pr fun _ _ z => z.keep (sl.trans s3)⟩ (by intro z; cases z)
      refine ifF (decide_eq_false c1) ?_
      refine ⟨_, rfl, rfl, _, rfl, ?_⟩
      refine iteF ?_
      exact k0 _ (sq0.trans sl) (by rw [st, if_neg c1])
    | text =>
      have hr0 : s0 = [] := W.top
      have ev : vs = [] := List.length_eq_zero_iff.mp (by rw [lv, hr0]; rfl)
      subst ev
      have pr : Paired (FrAt H1) [] s0.reverse := Paired.mapP (hnp (by intro z; cases z)) fun _ _ z => z.keep sq0
      refine ⟨_, rfl, rfl, _, rfl, ?_⟩
      refine iteF ?_
      refine ⟨_, rfl, rfl, _, rfl, ?_⟩
      refine iteF ?_
      refine ⟨_, rfl, rfl, _, rfl, ?_⟩
      refine iteF ?_
      refine ⟨_, rfl, rfl, _, rfl, ?_⟩
      refine iteF ?_
      refine ⟨_, rfl, Nat.zero_le _, fun ql hql => ?_⟩
      generalize hHl : upd H1 ql _ = Hl
      obtain ⟨sl, el⟩ := freshF hql hHl
      have hbl := sl _ _ hb1
      refine ⟨b, ql, _, rfl, rfl, SqL.of hbl, SqL.of el, _, rfl, ?_⟩
      refine ifF rfl ?_
      refine ⟨_, rfl, rfl, _, rfl, ?_⟩
      refine iteF ?_
      refine ⟨_, rfl, rfl, _, rfl, ?_⟩
      refine iteF ?_
      refine ⟨_, rfl, rfl, _, rfl, ?_⟩
      refine iteF ?_
      refine ⟨_, rfl, rfl, _, rfl, ?_⟩
      refine iteF ?_
      refine ⟨_, rfl, rfl, _, rfl, ?_⟩
      refine iteT ?_
      refine ⟨_, rfl, rfl, _, rfl, ?_⟩
      rw [dec_str]
      have st : ∀ y, stepS (s0, .text) y = if y = etS then some (s0, .done) else none := fun y => by rw [hr0]; rfl
      by_cases c1 : x = etS
      · refine ifT (decide_eq_true c1) ?_
        refine ⟨_, rfl, (by show 2 ≤ sizeLine; decide), fun p hp => ?_⟩
        have s3 := same_new (o := .tup [V.ref b, .str "done"]) hp
        refine k1 p _ (s0, .done) ((sq0.trans sl).trans s3) (by rw [st, if_pos c1]) ?_
        exact St2.of ⟨b, upd_same, _, s3 _ _ hbl, Paired.mapP pr fun _ _ z => z.keep (sl.trans s3)⟩ (by intro z; cases z)
      refine ifF (decide_eq_false c1) ?_
      exact k0 _ (sq0.trans sl) (by rw [st, if_neg c1])
    | done =>
      have hr0 : s0 = [] := W.top
      have ev : vs = [] := List.length_eq_zero_iff.mp (by rw [lv, hr0]; rfl)
      subst ev
      have pr : Paired (FrAt H1) [] s0.reverse := Paired.mapP (hnp (by intro z; cases z)) fun _ _ z => z.keep sq0
      refine ⟨_, rfl, rfl, _, rfl, ?_⟩
      refine iteF ?_
      refine ⟨_, rfl, rfl, _, rfl, ?_⟩
      refine iteF ?_
      refine ⟨_, rfl, rfl, _, rfl, ?_⟩
      refine iteF ?_
      refine ⟨_, rfl, rfl, _, rfl, ?_⟩
      refine iteF ?_
      refine ⟨_, rfl, Nat.zero_le _, fun ql hql => ?_⟩
      generalize hHl : upd H1 ql _ = Hl
      obtain ⟨sl, el⟩ := freshF hql hHl
      have hbl := sl _ _ hb1
      refine ⟨b, ql, _, rfl, rfl, SqL.of hbl, SqL.of el, _, rfl, ?_⟩
      refine ifF rfl ?_
      refine ⟨_, rfl, rfl, _, rfl, ?_⟩
      refine iteF ?_
      refine ⟨_, rfl, rfl, _, rfl, ?_⟩
      refine iteF ?_
      refine ⟨_, rfl, rfl, _, rfl, ?_⟩
      refine iteF ?_
      refine ⟨_, rfl, rfl, _, rfl, ?_⟩
      refine iteF ?_
      refine ⟨_, rfl, rfl, _, rfl, ?_⟩
      refine iteF ?_
      exact k0 _ (sq0.trans sl) (by rw [hr0]; rfl)
end
end K3

set_option Elab.async false
set_option linter.all false
set_option pp.maxSteps 700
set_option maxRecDepth 100000
set_option maxHeartbeats 4000000
namespace K3
open PySem PySem.Spec PyProof.Rows L2
open TL (tl)
abbrev sFiW : Stmt := top 69
/-! ### the law's first wrong token -/
def fwT (ts : List Tok) : Option Nat := match ts with
  | [] => none
  | t :: _ => if t.i = some 0 then fwL (wsD ts 0) 0 ([], .kind) else some 0
theorem wsD_end {ts : List Tok} {i : Nat} (h : ts.length ≤ i) : wsD ts i = [] := by
  unfold wsD
  rw [List.drop_eq_nil_of_le h]
  rfl
def spFiW : Sp := fun vs H Q _ => ∃ (a : Addr) (xs : List V) (ts : List Tok), vs = [.ref a] ∧ H a = some (.lst xs) ∧ Paired (TokAt H) xs ts ∧ (∀ t ∈ ts, t.s.length ≤ 10000) ∧ xs.length ≤ 16000000 ∧
  ∀ H', Same H H' → Q (match fwT ts with | some i => .int (i : Nat) | none => .non) H'
structure MgFiW (K : PySem.W.Frag) (mg : Str → Option Value) (fStp : Addr) : Prop where
  enu : mg "enumerate" = none
  stp : mg "_law_step" = some (.ref fStp)
  kstp : PySem.W.keepIn K (.ref fStp) = true
section
variable {P : Program} {w : World} {K : PySem.W.Frag} {mg : Str → Option Value} {base : Heap}
theorem scFiW : FnScope ["tokens", "state", "at", "line", "column", "indent", "word"] ["tokens"] (defScope sFiW) := ⟨rfl, rfl, rfl, by decide +kernel, rfl, by decide +kernel, by decide +kernel⟩
theorem ok_fiw {f fStp : Addr} {fd fdS : FuncData} (F : Fun K "_law_first_wrong" "_law_first_wrong" sFiW f fd) (T : MgFiW K mg fStp) (GS : FnOk P w K mg base CX0 2 fStp fdS ["state", "word"] spStp) (bS : L2.Binds K fdS ["state", "word"] []) :
    FnOk P w K mg base CX0 3 f fd ["tokens"] spFiW := by
  refine F.ok scFiW (fun vs H Q E h => ?_) (fun cdv A outer s H vs Q E hr h => ?_)
  · obtain ⟨a, xs, ts, rfl, _⟩ := h
    rfl
  · obtain ⟨a, xs, ts, rfl, ha, pr, hb, hx, k⟩ := h
    refine ⟨_, (pss_cons (ps_set (i := 1) scFiW.nd rfl (Or.inl rfl) (pe_tup (pa_cons (pe_lst pa_nil) (pa_cons pe_str pa_nil))))
      (pss_cons (ps_for PassesOwn.never rfl (pi_enum (by rfl) T.enu (pa_cons (pv 0) pa_nil)) (pg_tup (by rfl) (pgs_cons (pg_name (i := 2) scFiW.nd rfl (Or.inl rfl)) (pgs_cons (pg_tup (by rfl) (pgs_cons (pg_name (i := 3) scFiW.nd rfl (Or.inl rfl)) (pgs_cons (pg_name (i := 4) scFiW.nd rfl (Or.inl rfl)) (pgs_cons (pg_name (i := 5) scFiW.nd rfl (Or.inl rfl)) (pgs_cons (pg_name (i := 6) scFiW.nd rfl (Or.inl rfl)) pgs_nil))))) pgs_nil)))
          (pss_cons (ps_set (i := 1) scFiW.nd rfl (Or.inl rfl) (pe_ifExp (PW.pt (pw_or (pt_cmpR op_gt (pv 2) pe_int (nomark _)) (pw_or1 (pt_cmpR op_eq (pv 5) pe_int (nomark _))))) (pe_call GS hr (by rfl) T.stp T.kstp bS .nil pass0 (pa_cons (pv 1) (pa_cons (pv 6) pa_nil))) pe_non))
          (pss_one (ps_if (pt_cmpR op_isN (pv 1) pe_non (nomark _)) (pss_one (ps_ret (pv 2))) pss_nil))))
      (pss_one (ps_ret pe_non)))), ?_⟩
    have lx := paired_len pr
    refine ⟨Nat.zero_le _, fun q0 hq0 => ?_⟩
    generalize hH1 : upd H q0 _ = H1
    obtain ⟨s1, e1⟩ := freshF hq0 hH1
    refine ⟨(by show 2 ≤ sizeLine; decide), fun q1 hq1 => ?_⟩
    generalize hH2 : upd H1 q1 _ = H2
    obtain ⟨s2, e2⟩ := freshF hq1 hH2
    have s02 := s1.trans s2
    refine ⟨_, rfl, a, xs, rfl, SqL.of (s02 _ _ ha), for_enum (K := K) (a := a) (xs := xs)
      (fun i σ H' => ∃ (p : Addr) (st : List Fr × Wt) (av lv cv iv wv : Option V), σ = [some (.ref a), some (.ref p), av, lv, cv, iv, wv] ∧ Same H H' ∧ St2 H' p st ∧ WfS st ∧ (i = 0 → st = ([], .kind)) ∧ (0 < i → fwT ts = fwL (wsD ts i) i st))
      ⟨q1, ([], .kind), none, none, none, none, none, rfl, s02, ?_, ?_, fun _ => rfl, fun h => absurd h (by decide)⟩ (fun i σ H' _ ⟨_, _, _, _, _, _, _, _, s, _⟩ => SqL.of (s _ _ ha)) ?_ ?_⟩
    · exact ⟨q0, [], e2, s2 _ _ e1, .nil, fun z => (by cases z), fun _ => .nil⟩
    · exact ⟨Nat.zero_le _, fun _ h => (by cases h), fun _ _ h => (by cases h), True.intro⟩
    · rintro i v Ta σ H3 hi ⟨p, st, av, lv, cv, iv, wv, rfl, s3, S, W, z0, z1⟩ hT
      obtain ⟨t, ht, b, rfl, hb0⟩ := paired_at pr hi
      generalize hH4 : upd H3 Ta _ = H4
      obtain ⟨s4, e4⟩ := freshF hT hH4
      have hil := (List.getElem?_eq_some_iff.mp ht).1
      have hb3 := s4 _ _ (s3 _ _ hb0)
      have ew : tokS ts i = t.s := tokS_of ht
      have hbt := hb t (List.mem_of_getElem? ht)
      refine ⟨Ta, _, rfl, SqT.of e4, (by rfl), _, _, rfl, _, _, rfl, b, _, rfl, SqT.of hb3, (by rfl), _, _, rfl, _, _, rfl, _, _, rfl, _, _, rfl, rfl, rfl, ?_⟩
      refine ⟨_, rfl, _, _, rfl, rfl, _, rfl, ?_⟩
      have s34 := s3.trans s4
      -- the step
      have fwi : (i = 0 → t.i = some 0) → fwT ts = fwL (wsD ts i) i st := fun h => by
        rcases Nat.eq_zero_or_pos i with e | e
        · subst e
          obtain ⟨t', r, rfl⟩ : ∃ t' r, ts = t' :: r := by
            cases ts with
            | nil => simp at hil
            | cons t' r => exact ⟨t', r, rfl⟩
          obtain rfl : t' = t := Option.some.inj ht
          rw [z0 rfl]
          show (if t'.i = some 0 then _ else _) = _
          rw [if_pos (h rfl)]
        · exact z1 e
      have bad : (i = 0 → t.i = some 0) → stepS st t.s = none → fwT ts = some i := fun h e => by
        rw [fwi h]
        exact fw_no hil (by rw [ew]; exact e)
      have good : (i = 0 → t.i = some 0) → ∀ st', stepS st t.s = some st' → fwT ts = fwL (wsD ts (i + 1)) (i + 1) st' := fun h st' e => by
        rw [fwi h]
        exact fw_yes hil (by rw [ew]; exact e)
      have kbad : fwT ts = some i → ∀ H', Same H H' → Q (.int (i : Nat)) H' := fun e H' s' => by
        have := k H' s'
        rw [e] at this
        exact this
      by_cases c1 : 0 < i
      · refine ifT (decide_eq_true (by omega)) ?_
        refine iteT ?_
        have h0 : i = 0 → t.i = some 0 := fun e => by omega
        refine ⟨_, rfl, _, rfl, p, t.s, st, rfl, S.keep s4, W, hbt, fun H' s' e => ?_, fun p' H' st' s' e S' => ?_⟩
        · refine ⟨_, rfl, rfl, _, rfl, ?_⟩
          refine iteT ?_
          exact ⟨_, rfl, kbad (bad h0 e) H' (s34.trans s')⟩
        · refine ⟨_, rfl, rfl, _, rfl, ?_⟩
          refine iteF ?_
          exact ⟨p', st', _, _, _, _, _, rfl, s34.trans s', S', wf_step W e, fun z => (by omega), fun _ => good h0 st' e⟩
      · have i0 : i = 0 := by omega
        refine ifF (decide_eq_false (by omega)) ?_
        generalize hti : t.i = o at *
        cases o with
        | none =>
          refine ⟨_, rfl, rfl, _, rfl, ?_⟩
          refine iteF ?_
          refine ⟨_, rfl, rfl, _, rfl, ?_⟩
          refine iteT ?_
          refine ⟨_, rfl, kbad ?_ _ s34⟩
          subst i0
          obtain ⟨t', r, rfl⟩ : ∃ t' r, ts = t' :: r := by
            cases ts with
            | nil => simp at hil
            | cons t' r => exact ⟨t', r, rfl⟩
          obtain rfl : t' = t := Option.some.inj ht
          show (if t'.i = some 0 then _ else _) = _
          rw [hti, if_neg (by intro z; cases z)]
        | some z =>
          refine ⟨_, rfl, rfl, _, rfl, ?_⟩
          by_cases cz : z = 0
          rotate_left
          · refine ifF (decide_eq_false (by intro h; injection h with h; exact cz h)) ?_
            refine ⟨_, rfl, rfl, _, rfl, ?_⟩
            refine iteT ?_
            refine ⟨_, rfl, kbad ?_ _ s34⟩
            subst i0
            obtain ⟨t', r, rfl⟩ : ∃ t' r, ts = t' :: r := by
              cases ts with
              | nil => simp at hil
              | cons t' r => exact ⟨t', r, rfl⟩
            obtain rfl : t' = t := Option.some.inj ht
            show (if t'.i = some 0 then _ else _) = _
            rw [hti, if_neg (by intro h; injection h with h; exact cz h)]
          refine ifT (decide_eq_true (by rw [cz])) ?_
          have h0 : i = 0 → some z = some 0 := fun e => by rw [cz]
          refine ⟨_, rfl, _, rfl, p, t.s, st, rfl, S.keep s4, W, hbt, fun H' s' e => ?_, fun p' H' st' s' e S' => ?_⟩
          · refine ⟨_, rfl, rfl, _, rfl, ?_⟩
            refine iteT ?_
            exact ⟨_, rfl, kbad (bad h0 e) H' (s34.trans s')⟩
          · refine ⟨_, rfl, rfl, _, rfl, ?_⟩
            refine iteF ?_
            exact ⟨p', st', _, _, _, _, _, rfl, s34.trans s', S', wf_step W e, fun z => (by omega), fun _ => good h0 st' e⟩
    · rintro σ H3 ⟨p, st, av, lv, cv, iv, wv, rfl, s3, S, W, z0, z1⟩
      have e : fwT ts = none := by
        rcases Nat.eq_zero_or_pos xs.length with e | e
        · have : ts = [] := List.length_eq_zero_iff.mp (by omega)
          rw [this]
          rfl
        · rw [z1 e, wsD_end (by omega)]
          rfl
      have := k H3 s3
      rw [e] at this
      exact this
end
end K3

set_option Elab.async false
set_option linter.all false
set_option pp.maxSteps 700
set_option maxRecDepth 100000
set_option maxHeartbeats 4000000
namespace K3
open PySem PySem.Spec PyProof.Rows L2
open TL (tl)
/-! ### tokens of a kind's text: what they are, how many -/
def okT (x : Str) : Prop := x.length ≤ 8 ∧ ((1 ≤ x.length ∧ ∀ c ∈ tl x, isW c = true) ∨ ∃ c, x = ⟨#[c]⟩ ∧ isW c = false ∧ c ≠ 32 ∧ c ≠ 10 ∧ c ≠ 35)
theorem okT_sign {c : Nat} (h1 : isW c = false) (h2 : c ≠ 32 ∧ c ≠ 10 ∧ c ≠ 35) : okT ⟨#[c]⟩ := ⟨by show 1 ≤ 8; decide, .inr ⟨c, rfl, h1, h2⟩⟩
theorem okT_word {x : Str} (h : (decide (1 ≤ x.length) && (decide (x.length ≤ 8) && (tl x).all isW)) = true) : okT x := by
  simp only [Bool.and_eq_true, decide_eq_true_iff] at h
  exact ⟨h.2.1, .inl ⟨h.1, fun c hc => List.all_eq_true.mp h.2.2 c hc⟩⟩
theorem tk_okT : ∀ (n : Nat) (d : Dt), formed (n + 1) d = true → ∀ x ∈ tkN (n + 1) d, okT x
  | n, d, h => by
    rcases formed_cases h with ⟨s, rfl, hs⟩ | ⟨m, hm, ⟨l, rfl, h1, h2, h3, _⟩ | ⟨i, z, rfl, h1, h2, h3⟩⟩
    · rw [tk_str]
      intro x hx
      rw [List.mem_singleton.mp hx]
      unfold plainS at hs
      rw [Bool.or_eq_true, beq_iff_eq, beq_iff_eq] at hs
      rcases hs with rfl | rfl <;> exact okT_word (by decide +kernel)
    · obtain rfl : n = m + 1 := by omega
      rw [tk_two]
      intro x hx
      have hx : x ∈ ("record" : Str) :: ("(" : Str) :: (sepJ (l.map (fTk (tkN (m + 1)))) ++ [(")" : Str)]) := hx
      rcases List.mem_cons.mp hx with rfl | hx
      · exact okT_word (by decide +kernel)
      · rcases List.mem_cons.mp hx with rfl | hx
        · exact okT_sign (c := 40) (by decide +kernel) (by decide)
        · rcases List.mem_append.mp hx with hx | hx
          · refine sep_mem (Pp := okT) (okT_sign (c := 44) (by decide +kernel) (by decide)) _ (fun a ha => ?_) x hx
            obtain ⟨p, hp, rfl⟩ := List.mem_map.mp ha
            obtain ⟨s, y, rfl, hs, hy⟩ := pairF_of (h3 p hp)
            intro x hx
            rcases List.mem_cons.mp hx with rfl | hx
            · exact ⟨(name_parts hs).2.1, .inl (name_W hs)⟩
            · exact tk_okT m y hy x hx
          · rw [List.mem_singleton.mp hx]
            exact okT_sign (c := 41) (by decide +kernel) (by decide)
    · obtain rfl : n = m + 1 := by omega
      rw [tk_two]
      intro x hx
      have hx : x ∈ ("row" : Str) :: iTx i :: tkN (m + 1) z := hx
      rcases List.mem_cons.mp hx with rfl | hx
      · exact okT_word (by decide +kernel)
      · rcases List.mem_cons.mp hx with rfl | hx
        · have := iTx_len' h1 h2
          exact ⟨by omega, .inl (iTx_W' h1 h2)⟩
        · exact tk_okT m z h3 x hx
  termination_by n => n
  decreasing_by all_goals omega
def Ct : Nat → Nat
  | 0 => 1
  | n + 1 => 14 + 6 * Ct n
theorem Ct_1 : ∀ n, 1 ≤ Ct n
  | 0 => Nat.le_refl _
  | n + 1 => by unfold Ct; omega
theorem Ct_3 : Ct 3 = 818 := rfl
theorem sep_len {B : Nat} : ∀ l : List (List Str), l ≠ [] → (∀ a ∈ l, a.length ≤ B) → (sepJ l).length + 1 ≤ l.length * (B + 1)
  | [], h0, _ => absurd rfl h0
  | [a], _, h => by
    have := h a List.mem_cons_self
    show a.length + 1 ≤ 1 * (B + 1)
    omega
  | a :: b :: r, _, h => by
    have h1 := h a List.mem_cons_self
    have h2 := sep_len (b :: r) (by simp) fun z hz => h z (List.mem_cons_of_mem _ hz)
    show (a ++ ("," : Str) :: sepJ (b :: r)).length + 1 ≤ ((b :: r).length + 1) * (B + 1)
    rw [List.length_append, List.length_cons, Nat.add_mul, Nat.one_mul]
    omega
theorem tk_cnt : ∀ (n : Nat) (d : Dt), formed (n + 1) d = true → 1 ≤ (tkN (n + 1) d).length ∧ (tkN (n + 1) d).length ≤ Ct n
  | n, d, h => by
    rcases formed_cases h with ⟨s, rfl, hs⟩ | ⟨m, hm, ⟨l, rfl, h1, h2, h3, _⟩ | ⟨i, z, rfl, h1, h2, h3⟩⟩
    · rw [tk_str]
      exact ⟨Nat.le_refl _, Ct_1 n⟩
    · obtain rfl : n = m + 1 := by omega
      rw [tk_two]
      have e : tk2 (tkN (m + 1)) [.str "record", .tup l] = ("record" : Str) :: ("(" : Str) :: (sepJ (l.map (fTk (tkN (m + 1)))) ++ [(")" : Str)]) := rfl
      rw [e]
      have h4 := sep_len (B := Ct m + 1) (l.map (fTk (tkN (m + 1)))) (fun z => by rw [List.map_eq_nil_iff.mp z] at h1; exact absurd h1 (by decide)) (fun a ha => by
        obtain ⟨p, hp, rfl⟩ := List.mem_map.mp ha
        obtain ⟨s, y, rfl, hs, hy⟩ := pairF_of (h3 p hp)
        have := (tk_cnt m y hy).2
        show (tkN (m + 1) y).length + 1 ≤ _
        omega)
      rw [List.length_map] at h4
      have h5 : l.length * (Ct m + 1 + 1) ≤ 6 * (Ct m + 1 + 1) := Nat.mul_le_mul_right _ h2
      simp only [List.length_cons, List.length_append, List.length_nil]
      unfold Ct
      omega
    · obtain rfl : n = m + 1 := by omega
      rw [tk_two]
      have e : tk2 (tkN (m + 1)) [.str "row", .int i, z] = ("row" : Str) :: iTx i :: tkN (m + 1) z := rfl
      rw [e]
      have := tk_cnt m z h3
      simp only [List.length_cons]
      unfold Ct
      omega
  termination_by n => n
  decreasing_by all_goals omega
/-! ### blanks, remarks -/
def bl_ (k : Nat) : Str := ⟨(List.replicate k 32).toArray⟩
theorem tl_bl (k : Nat) : tl (bl_ k) = List.replicate k 32 := rfl
theorem bl_len (k : Nat) : (bl_ k).length = k := by
  rw [TL.len_tl, tl_bl, List.length_replicate]
theorem wl_bl : ∀ (k : Nat) (l : List Nat), wl (List.replicate k 32 ++ l) = wl l
  | 0, l => rfl
  | k + 1, l => by
    rw [List.replicate_succ, List.cons_append, wl_sp]
    exact wl_bl k l
theorem mem_bl {k c : Nat} (h : c ∈ tl (bl_ k)) : c = 32 := List.eq_of_mem_replicate h
def TailOk (t : Str) : Prop := (∃ k, t = bl_ k ∨ ∃ r : Str, t = bl_ k ++ hash ++ r) ∧ (∀ c ∈ tl t, c ≠ 10) ∧ t.length ≤ 10
theorem body_tail {R t : Str} (hR : ∀ c ∈ tl R, c ≠ 35) (ht : TailOk t) : ∃ k, bodyOf (R ++ t) = R ++ bl_ k := by
  obtain ⟨⟨k, h⟩, _⟩ := ht
  have hf : 35 ∉ tl (R ++ bl_ k) := fun z => by
    rw [TL.tl_append] at z
    rcases List.mem_append.mp z with z | z
    · exact hR 35 z rfl
    · exact absurd (mem_bl z) (by decide)
  refine ⟨k, ?_⟩
  rcases h with rfl | ⟨r, rfl⟩
  · unfold bodyOf
    rw [TL.partition_none (s := 35) (S := []) tl_hash hf]
  · unfold bodyOf
    have e : R ++ (bl_ k ++ hash ++ r) = (R ++ bl_ k) ++ hash ++ r := by
      refine str_ext ?_
      simp only [TL.tl_append, List.append_assoc]
    rw [e, TL.partition_app (s := 35) (S := []) tl_hash hf]
theorem tail_of {t : Str} {k : Nat} (h : (t == bl_ k && (tl t).all (fun c => c != 10) && decide (t.length ≤ 10)) = true) : TailOk t := by
  simp only [Bool.and_eq_true, beq_iff_eq, decide_eq_true_iff] at h
  exact ⟨⟨k, .inl h.1.1⟩, fun c hc => by simpa using List.all_eq_true.mp h.1.2 c hc, h.2⟩
theorem tail_of2 {t : Str} (k : Nat) (r : Str) (h : (t == bl_ k ++ hash ++ r && (tl t).all (fun c => c != 10) && decide (t.length ≤ 10)) = true) : TailOk t := by
  simp only [Bool.and_eq_true, beq_iff_eq, decide_eq_true_iff] at h
  exact ⟨⟨k, .inr ⟨r, h.1.1⟩⟩, fun c hc => by simpa using List.all_eq_true.mp h.1.2 c hc, h.2⟩
/-- the ends of the row that a noisy text may have -/
def tls6 : List Str := ["", "", " ", "#", "  # x = (1", " #"]
theorem tls6_ok : ∀ t ∈ tls6, TailOk t := by
  intro t ht
  simp only [tls6, List.mem_cons, List.not_mem_nil, or_false] at ht
  rcases ht with rfl | rfl | rfl | rfl | rfl | rfl
  · exact tail_of (k := 0) (by decide +kernel)
  · exact tail_of (k := 0) (by decide +kernel)
  · exact tail_of (k := 1) (by decide +kernel)
  · exact tail_of2 0 "" (by decide +kernel)
  · exact tail_of2 2 " x = (1" (by decide +kernel)
  · exact tail_of2 1 "" (by decide +kernel)
/-- the lines that mean nothing -/
def nsy6 : List (List Str) := [[], [], ["  # unit u"], ["   "], [""], ["#", ""]]
theorem nsy6_ok : ∀ l ∈ nsy6, l.length ≤ 2 ∧ ∀ t ∈ l, TailOk t := by
  intro l hl
  simp only [nsy6, List.mem_cons, List.not_mem_nil, or_false] at hl
  have c1 : TailOk ("  # unit u" : Str) := tail_of2 2 " unit u" (by decide +kernel)
  have c2 : TailOk ("   " : Str) := tail_of (k := 3) (by decide +kernel)
  have c3 : TailOk ("" : Str) := tail_of (k := 0) (by decide +kernel)
  have c4 : TailOk ("#" : Str) := tail_of2 0 "" (by decide +kernel)
  rcases hl with rfl | rfl | rfl | rfl | rfl | rfl
  · exact ⟨by decide, fun t ht => by cases ht⟩
  · exact ⟨by decide, fun t ht => by cases ht⟩
  · exact ⟨by decide, fun t ht => by rw [List.mem_singleton.mp ht]; exact c1⟩
  · exact ⟨by decide, fun t ht => by rw [List.mem_singleton.mp ht]; exact c2⟩
  · exact ⟨by decide, fun t ht => by rw [List.mem_singleton.mp ht]; exact c3⟩
  · refine ⟨by decide, fun t ht => ?_⟩
    rcases List.mem_cons.mp ht with rfl | ht
    · exact c4
    · rw [List.mem_singleton.mp ht]
      exact c3
/-! ### the row -/
def lastC (R : Str) : Nat := (tl R).getD ((tl R).length - 1) 0
theorem last_at {R : Str} (h : 1 ≤ R.length) : atI R.cps.toList ((R.length : Int) - 1) = some (lastC R) := by
  have hl := TL.len_tl R
  have e : (R.length : Int) - 1 = (((tl R).length - 1 : Nat) : Int) := by omega
  rw [e]
  refine atI_nat (xs := tl R) ?_
  unfold lastC
  rw [List.getD_eq_getElem?_getD, List.getElem?_eq_getElem (by omega)]
  rfl
theorem last_app {R x : Str} (h : 1 ≤ x.length) : lastC (R ++ x) = lastC x := by
  have hl := TL.len_tl x
  unfold lastC
  rw [TL.tl_append, List.length_append, List.getD_eq_getElem?_getD, List.getD_eq_getElem?_getD, List.getElem?_append_right (by omega)]
  congr 2
  omega
theorem last_mem {R : Str} (h : 1 ≤ R.length) : lastC R ∈ tl R := by
  have hl := TL.len_tl R
  unfold lastC
  rw [List.getD_eq_getElem?_getD, List.getElem?_eq_getElem (by omega)]
  exact List.getElem_mem _
structure RowP (R : Str) (ws : List Str) : Prop where
  sg : sgOk R
  fst : ∃ c r, tl R = c :: r ∧ c ≠ 32
  wls : ∀ l, (hN l ∨ isW (lastC R) = false) → wl (tl R ++ l) = ws ++ wl l
theorem RowP.len {R : Str} {ws : List Str} (h : RowP R ws) : 1 ≤ R.length := by
  obtain ⟨c, r, e, _⟩ := h.fst
  rw [TL.len_tl, e, List.length_cons]
  omega
theorem okT_len {x : Str} (h : okT x) : 1 ≤ x.length := by
  rcases h.2 with h | ⟨c, rfl, _⟩
  · exact h.1
  · show 1 ≤ 1
    decide
theorem okT_sg {x : Str} (h : okT x) : sgOk x := by
  rcases h.2 with h | ⟨c, rfl, _, _, h3, h4⟩
  · exact sg_W h.2
  · intro d hd
    have : d = c := by
      have : d ∈ [c] := hd
      exact List.mem_singleton.mp this
    rw [this]
    exact ⟨h3, h4⟩
theorem okT_wl {x : Str} (h : okT x) {l : List Nat} (hl : hN l ∨ isW (lastC x) = false) : wl (tl x ++ l) = x :: wl l := by
  rcases h.2 with h | ⟨c, rfl, h1, h2, _⟩
  · have : hN l := hl.elim id fun z => by
      rw [h.2 _ (last_mem h.1)] at z
      cases z
    exact wl_word h.1 h.2 this
  · exact wl_sign h2 h1 l
theorem okT_fst {x : Str} (h : okT x) : ∃ c r, tl x = c :: r ∧ c ≠ 32 ∧ (tl x).getD 0 0 = c := by
  rcases h.2 with ⟨h1, h2⟩ | ⟨c, rfl, h1, h2, _⟩
  · have hl := TL.len_tl x
    cases e : tl x with
    | nil => rw [e, List.length_nil] at hl; omega
    | cons c r => exact ⟨c, r, rfl, isW_32 (h2 c (by rw [e]; exact List.mem_cons_self)), rfl⟩
  · exact ⟨c, [], rfl, h2, rfl⟩
theorem row_one {x : Str} (h : okT x) : RowP x [x] := by
  obtain ⟨c, r, e, h1, _⟩ := okT_fst h
  exact ⟨okT_sg h, ⟨c, r, e, h1⟩, fun l hl => okT_wl h hl⟩
theorem row_step {R x : Str} {ws : List Str} {g : Nat} (h : RowP R ws) (hx : okT x) (hg : isW ((tl x).getD 0 0) = true → isW (lastC R) = true → 1 ≤ g) : RowP (R ++ bl_ g ++ x) (ws ++ [x]) := by
  obtain ⟨c, r, e, h1⟩ := h.fst
  refine ⟨sg_app (sg_app h.sg fun d hd => ?_) (okT_sg hx), ⟨c, _, by rw [TL.tl_append, TL.tl_append, e, List.cons_append, List.cons_append], h1⟩, fun l hl => ?_⟩
  · rw [mem_bl hd]
    decide
  · rw [last_app (okT_len hx)] at hl
    rw [TL.tl_append, TL.tl_append, List.append_assoc, List.append_assoc, tl_bl]
    have key : hN (List.replicate g 32 ++ (tl x ++ l)) ∨ isW (lastC R) = false := by
      cases g with
      | succ k =>
        left
        rw [List.replicate_succ, List.cons_append]
        exact hN_sp _
      | zero =>
        cases hw : isW (lastC R) with
        | false => exact .inr rfl
        | true =>
          left
          obtain ⟨c', r', e', _, e2⟩ := okT_fst hx
          intro d hd
          rw [e'] at hd
          have hd : d ∈ some c' := hd
          have hd : c' = d := Option.some.inj hd
          rw [← hd, ← e2]
          cases hf : isW ((tl x).getD 0 0) with
          | false => rfl
          | true => exact absurd (hg hf hw) (by decide)
    rw [h.wls _ key, wl_bl, okT_wl hx hl, List.append_assoc]
    rfl
/-! ### the noisy text -/
theorem rows_noise : ∀ (fs : List Str) (i : Nat) (x : Str), (∀ f ∈ fs, TailOk f) → rowsToks i (fs ++ [x]) = lineToks (((i + fs.length : Nat) : Int) + 1) (tl (bodyOf x))
  | [], i, x, _ => by
    show lineToks ((i : Int) + 1) (tl (bodyOf x)) ++ [] = _
    rw [List.append_nil]
    rfl
  | f :: fs, i, x, h => by
    show lineToks ((i : Int) + 1) (tl (bodyOf f)) ++ rowsToks (i + 1) (fs ++ [x]) = _
    have e : lineToks ((i : Int) + 1) (tl (bodyOf f)) = [] := by
      obtain ⟨k, hk⟩ := body_tail (R := Str.empty) (fun c hc => by cases hc) (h f List.mem_cons_self)
      rw [empty_app, empty_app] at hk
      have := line_wl ((i : Int) + 1) (tl (bodyOf f))
      rw [hk, tl_bl, show List.replicate k 32 = List.replicate k 32 ++ [] from (List.append_nil _).symm, wl_bl, wl_nil, if_pos rfl] at this
      rw [hk, tl_bl, show List.replicate k 32 = List.replicate k 32 ++ [] from (List.append_nil _).symm]
      exact List.map_eq_nil_iff.mp this
    rw [e, rows_noise fs (i + 1) x fun g hg => h g (List.mem_cons_of_mem _ hg), List.nil_append, List.length_cons]
    congr 2
    omega
theorem noisy_ok {fs : List Str} {R t : Str} {ws : List Str} (hf : ∀ f ∈ fs, TailOk f) (hR : RowP R ws) (hws : ws ≠ []) (ht : TailOk t) :
    Txt.split (Txt.join nlS (fs ++ [R ++ t])) nlS = fs ++ [R ++ t] ∧ (allToks (Txt.join nlS (fs ++ [R ++ t]))).map Tok.s = ws ++ [nlS, etS] ∧ ∀ u, (allToks (Txt.join nlS (fs ++ [R ++ t])))[0]? = some u → u.i = some 0 := by
  have es : Txt.split (Txt.join nlS (fs ++ [R ++ t])) nlS = fs ++ [R ++ t] := by
    refine TL.split_join (s := 10) (S := []) tl_nl (by decide +kernel) (by simp) fun p hp => ?_
    rcases List.mem_append.mp hp with hp | hp
    · exact fun z => (hf p hp).2.1 10 z rfl
    · rw [List.mem_singleton.mp hp, TL.tl_append]
      intro z
      rcases List.mem_append.mp z with z | z
      · exact (hR.sg 10 z).1 rfl
      · exact ht.2.1 10 z rfl
  obtain ⟨k, hk⟩ := body_tail (fun c hc => (hR.sg c hc).2) ht
  have hwl : wl (tl (bodyOf (R ++ t))) = ws := by
    rw [hk, TL.tl_append, tl_bl]
    have hh : hN (List.replicate k 32) := by
      cases k with
      | zero => intro d hd; cases hd
      | succ k => exact hN_sp _
    rw [hR.wls _ (.inl hh), show List.replicate k 32 = List.replicate k 32 ++ [] from (List.append_nil _).symm, wl_bl, wl_nil, List.append_nil]
  refine ⟨es, ?_, ?_⟩
  · unfold allToks
    rw [es, rows_noise fs 0 _ hf, List.map_append, line_wl, hwl, if_neg hws, List.append_assoc]
    rfl
  · intro u hu
    unfold allToks at hu
    rw [es, rows_noise fs 0 _ hf] at hu
    have hl : (lineToks (((0 + fs.length : Nat) : Int) + 1) (tl (bodyOf (R ++ t)))).length ≠ 0 := fun z => by
      have := congrArg List.length (line_wl (((0 + fs.length : Nat) : Int) + 1) (tl (bodyOf (R ++ t))))
      rw [List.length_map, z, hwl, if_neg hws, List.length_append] at this
      simp at this
    rw [List.getElem?_append_left (by omega)] at hu
    obtain ⟨c, r, e, hc⟩ := hR.fst
    exact line_first (c := c) (r := r ++ List.replicate k 32) (by rw [hk, TL.tl_append, e]; rfl) hc u hu
/-! ### letters -/
def Ltr : Str := "abcdefghijklmnopqrstuvwxyz0123456789ABCDEFGHIJKLMNOPQRSTUVWXYZ_"
theorem ltr_mem (c : Nat) : decide (c ∈ Ltr.cps.toList) = isW c := by
  have h1 : ∀ x ∈ Ltr.cps.toList, x ∈ WS.cps.toList := by decide +kernel
  have h2 : ∀ x ∈ WS.cps.toList, x ∈ Ltr.cps.toList := by decide +kernel
  unfold isW
  exact decide_eq_decide.mpr ⟨h1 c, h2 c⟩
theorem mul_bl : ∀ g : Fin 5, Txt.mul (" " : Str) ((g.val : Nat) : Int) = bl_ g.val := by decide +kernel
end K3

set_option Elab.async false
set_option linter.all false
set_option pp.maxSteps 700
set_option maxRecDepth 100000
set_option maxHeartbeats 4000000
namespace K3
open PySem PySem.Spec PyProof.Rows L2
open TL (tl)
abbrev sNoi : Stmt := top 63
section
variable {X : Cx}
theorem op_mul_str0 : OpR X (binaryOp .Mult) (fun x y H Q => ∃ (i : Str) (n : Int), x = .str i ∧ y = .int n ∧ 0 ≤ n ∧ n ≤ 1000 ∧ i.length ≤ 1000 ∧ Q (.str (Txt.mul i n)) H) := by
  intro pins s σ H x y v u Q I rx ry h
  obtain ⟨i, n, rfl, rfl, h0, h1, h2, q⟩ := h
  obtain ⟨t, rfl⟩ := rx
  obtain ⟨t', rfl⟩ := ry
  refine SB.mul ⟨?_, ?_, ?_⟩ fun t' k => ⟨.str _, H, I.tok _, ⟨_, rfl⟩, q⟩
  · rw [decide_eq_false (by omega), decide_eq_false (by omega)]
    rfl
  · intro _ _
    have : (1000 : Int) ≤ (2 ^ 63 - 1) / n := by
      refine Int.le_ediv_of_mul_le (by omega) ?_
      omega
    omega
  · intro _ _
    have : i.length * n.toNat ≤ 1000 * 1000 := Nat.mul_le_mul h2 (by omega)
    exact decide_eq_false (show ¬ (i.length * n.toNat > sizeLine) by rw [sizeLine_eq]; omega)
end
theorem joinL_len (S : List Nat) : ∀ l : List (List Nat), (TL.joinL S l).length ≤ (l.map (·.length)).sum + l.length * S.length
  | [] => Nat.zero_le _
  | [x] => by
    show x.length ≤ (x.length + 0) + 1 * S.length
    omega
  | x :: y :: r => by
    have h := joinL_len S (y :: r)
    show (x ++ (S ++ TL.joinL S (y :: r))).length ≤ (x.length + ((y :: r).map (·.length)).sum) + ((y :: r).length + 1) * S.length
    rw [List.length_append, List.length_append, Nat.add_mul, Nat.one_mul]
    omega
theorem join_len (y : Str) (l : List Str) : (Txt.join y l).length ≤ (l.map (·.length)).sum + l.length * y.length := by
  have h := joinL_len (tl y) (l.map tl)
  rw [TL.len_tl, TL.join_eq, TL.tl_join]
  rw [List.length_map, List.map_map, ← TL.len_tl] at h
  have e : (l.map ((fun x => x.length) ∘ tl)) = l.map (·.length) := List.map_congr_left fun x _ => (TL.len_tl x).symm
  rw [e] at h
  exact h
theorem Kp.free {d g c p : Addr} {H H1 : Hp} {n : Nat} (S : StA H1 d g c n) (k : Kp d g H H1) (hp : H1 p = none) : H p = none := by
  obtain ⟨h1, h2, _⟩ := S.free hp
  cases e : H p with
  | none => rfl
  | some o =>
    rw [k p o e h1 h2] at hp
    cases hp
theorem due_0 {w : Str} {r : List Str} : (due (w :: r))[0]? = some (some 0, w) := rfl
theorem due_at {ws : List Str} {i : Nat} {q : Option Int × Str} (h : (due ws)[i]? = some q) : ws[i]? = some q.2 ∧ q.1 = if i = 0 then some 0 else none := by
  cases ws with
  | nil => cases h
  | cons w r =>
    cases i with
    | zero =>
      obtain rfl := Option.some.inj h
      exact ⟨rfl, rfl⟩
    | succ i =>
      have h : (r.map fun x => ((none : Option Int), x))[i]? = some q := h
      rw [List.getElem?_map] at h
      obtain ⟨x, hx, rfl⟩ := Option.map_eq_some_iff.mp h
      exact ⟨hx, rfl⟩
/-- what stands behind the i-th token -/
def NzI (ws : List Str) (i : Nat) (fs : List Str) (R : Str) : Prop :=
  (i = 0 ∧ fs = [] ∧ R = "") ∨ (1 ≤ i ∧ i ≤ ws.length ∧ (∀ f ∈ fs, TailOk f) ∧ fs.length ≤ 2 ∧ RowP R (ws.take i) ∧ R.length ≤ 12 * i) ∨
  (ws.length < i ∧ ∃ fs' R' t, fs = fs' ++ [R' ++ t] ∧ (∀ f ∈ fs', TailOk f) ∧ fs'.length ≤ 2 ∧ RowP R' ws ∧ R'.length ≤ 12 * ws.length ∧ TailOk t)
theorem NzI.few {ws : List Str} {i : Nat} {fs : List Str} {R : Str} (h : NzI ws i fs R) : fs.length ≤ 3 := by
  rcases h with ⟨_, rfl, _⟩ | ⟨_, _, _, h, _⟩ | ⟨_, fs', R', t, rfl, _, h, _⟩
  · exact Nat.zero_le _
  · omega
  · rw [List.length_append, List.length_singleton]
    omega
def spNoi : Sp := fun vs H Q _ => ∃ (d g c a : Addr) (n : Nat) (xs : List V) (ts : List Tok) (dd : Dt), vs = [.ref d, .ref a] ∧ StA H d g c n ∧ n ≤ 900000000 ∧ H a = some (.lst xs) ∧ a ≠ g ∧ Paired (TokAt H) xs ts ∧ formed 4 dd = true ∧
  rowsIW ts = due (tkN 4 dd ++ [nlS, etS]) ∧ ∀ (z : Str) (H' : Hp), z.length ≤ 9999 → (Txt.split z nlS).length ≤ 1500 → (allToks z).map Tok.s = tkN 4 dd ++ [nlS, etS] → (∀ u, (allToks z)[0]? = some u → u.i = some 0) → StA H' d g c (n + 3000) → Kp d g H H' → Q (.str z) H'
structure MgNoi (K : PySem.W.Frag) (mg : Str → Option Value) (fP : Addr) : Prop where
  len : mg "len" = none
  int : mg "int" = none
  pk : mg "_law_pick" = some (.ref fP)
  kpk : PySem.W.keepIn K (.ref fP) = true
section
variable {P : Program} {w : World} {K : PySem.W.Frag} {mg : Str → Option Value} {base : Heap}
theorem scNoi : FnScope ["state", "tokens", "letters", "found", "row", "line", "column", "indent", "word", "gap"] ["state", "tokens"] (defScope sNoi) := ⟨rfl, rfl, rfl, by decide +kernel, rfl, by decide +kernel, by decide +kernel⟩
theorem ok_noi {f fP : Addr} {fd fdP : FuncData} (F : Fun K "_law_tx_noisy" "_law_tx_noisy" sNoi f fd) (T : MgNoi K mg fP) (GP : FnOk P w K mg base CX0 3 fP fdP ["state", "some"] spPck) (bP : L2.Binds K fdP ["state", "some"] []) :
    FnOk P w K mg base CX0 4 f fd ["state", "tokens"] spNoi := by
  refine F.ok scNoi (fun vs H Q E h => ?_) (fun cdv A outer s H vs Q E hr h => ?_)
  · obtain ⟨d, g, c, a, n, xs, ts, dd, rfl, _⟩ := h
    rfl
  · obtain ⟨d, g, c, a, n, xs, ts, dd, rfl, S, hn, ha, hag, pr, hfd, hiw, k⟩ := h
    refine ⟨_, (pss_cons (ps_par3 (i := 2) (j := 3) (l := 4) (by rfl) scNoi.nd rfl rfl rfl (by decide) (by decide) (by decide) rfl rfl rfl (pa_cons pe_str (pa_cons (pe_lst pa_nil) (pa_cons pe_str pa_nil))) (by rfl))
      (pss_cons (ps_for PassesOwn.never rfl (pi_list (pv 1)) (pg_tup (by rfl) (pgs_cons (pg_name (i := 5) scNoi.nd rfl (Or.inl rfl)) (pgs_cons (pg_name (i := 6) scNoi.nd rfl (Or.inl rfl)) (pgs_cons (pg_name (i := 7) scNoi.nd rfl (Or.inl rfl)) (pgs_cons (pg_name (i := 8) scNoi.nd rfl (Or.inl rfl)) pgs_nil)))))
          (pss_one (ps_if (pt_cmpR op_notN (pv 7) pe_non (nomark _)) (pss_cons (ps_set (i := 3) scNoi.nd rfl (Or.inl rfl) (pe_op op_cat (pv 3) (pe_call GP hr (by rfl) T.pk T.kpk bP .nil pass0 (pa_cons (pv 0) (pa_cons (pe_lst (pa_cons (pe_lst pa_nil) (pa_cons (pe_lst pa_nil) (pa_cons (pe_lst (pa_cons pe_str pa_nil)) (pa_cons (pe_lst (pa_cons pe_str pa_nil)) (pa_cons (pe_lst (pa_cons pe_str pa_nil)) (pa_cons (pe_lst (pa_cons pe_str (pa_cons pe_str pa_nil))) pa_nil))))))) pa_nil)))))
              (pss_one (ps_set (i := 4) scNoi.nd rfl (Or.inl rfl) (pe_op op_add_str (pe_op op_mul_str0 pe_str (pv 7)) (pv 8))))) (pss_one (ps_if (pt_cmpR op_in_seq (pv 8) (pe_lst (pa_cons pe_str (pa_cons pe_str pa_nil))) (by rfl)) (pss_one (ps_set (i := 3) scNoi.nd rfl (Or.inl rfl) (pe_op op_cat (pv 3) (pe_ifExp (pt_cmpR op_eq (pv 8) pe_str (nomark _)) (pe_lst (pa_cons (pe_op op_add_str (pv 4) (pe_call GP hr (by rfl) T.pk T.kpk bP .nil pass0 (pa_cons (pv 0) (pa_cons (pe_lst (pa_cons pe_str (pa_cons pe_str (pa_cons pe_str (pa_cons pe_str (pa_cons pe_str (pa_cons pe_str pa_nil))))))) pa_nil)))) pa_nil)) (pe_lst pa_nil))))) (pss_mid (ps_set (i := 9) scNoi.nd rfl (Or.inl rfl) (pe_op op_add (pe_callTy call_int1 (by rfl) T.int (by decide +kernel) (pa_cons (pe_and (pe_cmpR op_in_sign (pe_ix ix_str (pv 8) pe_int (fun _ _ => rfl)) (pv 2) (by rfl)) (pe_one (pe_cmpR op_in_sign (pe_ix ix_str (pv 4) (pe_op op_sub (pe_callB call_len_str (by rfl) T.len PySem.boot_len (pa_cons (pv 4) pa_nil)) pe_int) (fun _ _ => rfl)) (pv 2) (by rfl)))) pa_nil)) (pe_call GP hr (by rfl) T.pk T.kpk bP .nil pass0 (pa_cons (pv 0) (pa_cons (pe_lst (pa_cons pe_int (pa_cons pe_int (pa_cons pe_int (pa_cons pe_int pa_nil))))) pa_nil)))))
                  (pss_one (ps_set (i := 4) scNoi.nd rfl (Or.inl rfl) (pe_op op_add_str (pe_op op_add_str (pv 4) (pe_op op_mul_str0 pe_str (pv 9))) (pv 8))))))))))
      (pss_one (ps_ret (pe_join pe_str (pv 3)))))), ?_⟩
    have lx := paired_len pr
    obtain ⟨hc1, hc2⟩ := tk_cnt 3 dd hfd
    rw [Ct_3] at hc2
    have hok := tk_okT 3 dd hfd
    have hne := fun x hx => (tk_ne 3 dd hfd x hx).1
    generalize hws : tkN 4 dd = ws at *
    have hts : ts.length = ws.length + 2 := by
      have := congrArg List.length hiw
      unfold rowsIW at this
      rw [List.length_map] at this
      cases ws with
      | nil => exact absurd hc1 (by decide)
      | cons w0 r =>
        rw [this]
        show (((r ++ [nlS, etS]).map _).length + 1) = _
        rw [List.length_map, List.length_append]
        rfl
    have htok : ∀ {i : Nat} {t : Tok}, ts[i]? = some t → (ws ++ [nlS, etS])[i]? = some t.s ∧ t.i = if i = 0 then some 0 else none := fun {i t} ht => by
      have : (rowsIW ts)[i]? = some (t.i, t.s) := by
        unfold rowsIW
        rw [List.getElem?_map, ht]
        rfl
      rw [hiw] at this
      exact due_at this
    refine ⟨Nat.zero_le _, fun p hp => ?_⟩
    generalize hH1 : upd H p _ = H1
    obtain ⟨s1, e1⟩ := freshF hp hH1
    refine ⟨_, _, _, rfl, ?_⟩
    have S1 := S.keep s1
    have hp' := S.free hp
    have hk1 : Kt H H1 := Kt.of s1
    have kpL : ∀ H', Kp d g H H' → H' a = some (.lst xs) := fun H' kp => by
      obtain ⟨_, _, _, _, SX⟩ := id S
      exact kp _ _ ha (ne_of SX.dk ha (by intro z; cases z)).symm hag
    refine ⟨_, rfl, a, rfl, ⟨_, SqL.of (s1 _ _ ha)⟩, for_list (K := K) (a := a) (xs := xs)
      (fun i σ H' => ∃ (p : Addr) (fs : List Str) (R : Str) (lv cv iv wv gv : Option V), σ = [some (.ref d), some (.ref a), some (.str Ltr), some (.ref p), some (.str R), lv, cv, iv, wv, gv] ∧ StA H' d g c (n + 3 * i) ∧ Kp d g H H' ∧ H' p = some (.lst (fs.map V.str)) ∧ p ≠ d ∧ p ≠ g ∧ NzI ws i fs R)
      ⟨p, [], "", none, none, none, none, none, rfl, S1, Kp.of s1, e1, hp'.1, hp'.2.1, .inl ⟨rfl, rfl, rfl⟩⟩ (fun i σ H' _ ⟨_, _, _, _, _, _, _, _, _, _, kp, _⟩ => SqL.of (kpL _ kp)) ?_ ?_⟩
    · rintro i v σ H2 hi ⟨p, fs, R, lv, cv, iv, wv, gv, rfl, S2, kp2, e2, hpd, hpg, NZ⟩
      obtain ⟨t, ht, b, rfl, hb0⟩ := paired_at pr hi
      have hil := (List.getElem?_eq_some_iff.mp ht).1
      have hb2 : H2 b = some (.tup t.vs) := Kt.kp S kp2 _ _ hb0
      obtain ⟨hs, hti⟩ := htok ht
      refine ⟨b, _, rfl, SqT.of hb2, (by rfl), _, _, rfl, _, _, rfl, _, _, rfl, _, _, rfl, rfl, ?_⟩
      have hcs : i = 0 ∨ (1 ≤ i ∧ i < ws.length) ∨ i = ws.length ∨ i = ws.length + 1 := by omega
      rcases hcs with h0 | ⟨h0, h1⟩ | h0 | h0
      · -- the first token
        subst h0
        rw [if_pos rfl] at hti
        have hw0 : ws[0]? = some t.s := by
          rw [List.getElem?_append_left (by omega)] at hs
          exact hs
        have htk := hok t.s (List.mem_of_getElem? hw0)
        obtain ⟨rfl, rfl⟩ : fs = [] ∧ R = "" := by
          rcases NZ with ⟨_, h1, h2⟩ | ⟨h, _⟩ | ⟨h, _⟩
          · exact ⟨h1, h2⟩
          · exact absurd h (by decide)
          · exact absurd h (Nat.not_lt_zero _)
        rw [hti]
        refine ⟨_, rfl, rfl, _, rfl, ?_⟩
        refine iteT ?_
        have f1 := fun q hq => S2.free (p := q) hq
        refine ⟨_, rfl, _, rfl, Nat.zero_le _, fun q1 hq1 => ?_⟩
        generalize hH3 : upd H2 q1 _ = H3
        obtain ⟨sq1, eq1⟩ := freshF hq1 hH3
        have S3 := S2.keep sq1
        refine ⟨Nat.zero_le _, fun q2 hq2 => ?_⟩
        generalize hH4 : upd H3 q2 _ = H4
        obtain ⟨sq2, eq2⟩ := freshF hq2 hH4
        have S4 := S3.keep sq2
        refine ⟨(by show 1 ≤ sizeLine; decide), fun q3 hq3 => ?_⟩
        generalize hH5 : upd H4 q3 _ = H5
        obtain ⟨sq3, eq3⟩ := freshF hq3 hH5
        have S5 := S4.keep sq3
        refine ⟨(by show 1 ≤ sizeLine; decide), fun q4 hq4 => ?_⟩
        generalize hH6 : upd H5 q4 _ = H6
        obtain ⟨sq4, eq4⟩ := freshF hq4 hH6
        have S6 := S5.keep sq4
        refine ⟨(by show 1 ≤ sizeLine; decide), fun q5 hq5 => ?_⟩
        generalize hH7 : upd H6 q5 _ = H7
        obtain ⟨sq5, eq5⟩ := freshF hq5 hH7
        have S7 := S6.keep sq5
        refine ⟨(by show 2 ≤ sizeLine; decide), fun q6 hq6 => ?_⟩
        generalize hH8 : upd H7 q6 _ = H8
        obtain ⟨sq6, eq6⟩ := freshF hq6 hH8
        have S8 := S7.keep sq6
        refine ⟨(by show 6 ≤ sizeLine; decide), fun q7 hq7 => ?_⟩
        generalize hH9 : upd H8 q7 _ = H9
        obtain ⟨sq7, eq7⟩ := freshF hq7 hH9
        have S9 := S8.keep sq7
        refine ⟨d, g, c, q7, _, _, rfl, S9, by omega, eq7, (S8.free hq7).2.1, by simp, (by show 6 ≤ 1000000; decide), fun v H10 hv S10 kp10 => ?_⟩
        have l6 := sq7 _ _ eq6
        have l5 := sq7 _ _ (sq6 _ _ eq5)
        have l4 := sq7 _ _ (sq6 _ _ (sq5 _ _ eq4))
        have l3 := sq7 _ _ (sq6 _ _ (sq5 _ _ (sq4 _ _ eq3)))
        have l2 := sq7 _ _ (sq6 _ _ (sq5 _ _ (sq4 _ _ (sq3 _ _ eq2))))
        have l1 := sq7 _ _ (sq6 _ _ (sq5 _ _ (sq4 _ _ (sq3 _ _ (sq2 _ _ eq1)))))
        have s29 := (((((sq1.trans sq2).trans sq3).trans sq4).trans sq5).trans sq6).trans sq7
        obtain ⟨qv, l, rfl, hl, hqv⟩ : ∃ qv l, v = .ref qv ∧ l ∈ nsy6 ∧ H10 qv = some (.lst (l.map V.str)) := by
          simp only [List.mem_cons, List.not_mem_nil, or_false] at hv
          rcases hv with rfl | rfl | rfl | rfl | rfl | rfl
          · exact ⟨q1, [], rfl, by decide +kernel, kp10 _ _ l1 (S2.free hq1).1 (S2.free hq1).2.1⟩
          · exact ⟨q2, [], rfl, by decide +kernel, kp10 _ _ l2 (S3.free hq2).1 (S3.free hq2).2.1⟩
          · exact ⟨q3, ["  # unit u"], rfl, by decide +kernel, kp10 _ _ l3 (S4.free hq3).1 (S4.free hq3).2.1⟩
          · exact ⟨q4, ["   "], rfl, by decide +kernel, kp10 _ _ l4 (S5.free hq4).1 (S5.free hq4).2.1⟩
          · exact ⟨q5, [""], rfl, by decide +kernel, kp10 _ _ l5 (S6.free hq5).1 (S6.free hq5).2.1⟩
          · exact ⟨q6, ["#", ""], rfl, by decide +kernel, kp10 _ _ l6 (S7.free hq6).1 (S7.free hq6).2.1⟩
        obtain ⟨hl2, hlt⟩ := nsy6_ok l hl
        refine ⟨p, qv, _, _, rfl, rfl, kp10 _ _ (s29 _ _ e2) hpd hpg, hqv, (by rw [List.length_map, List.length_map, sizeLine_eq]; show 0 + l.length ≤ _; omega), fun p2 hp2 => ?_⟩
        generalize hH11 : upd H10 p2 _ = H11
        obtain ⟨sp2, ep2⟩ := freshF hp2 hH11
        have S11 := S10.keep sp2
        refine ⟨_, rfl, _, 0, rfl, rfl, by decide, by decide, (by decide +kernel), _, rfl, _, _, rfl, rfl, ?_, ?_⟩
        · have h8 := htk.1
          rw [show Txt.mul (" " : Str) 0 = bl_ 0 from mul_bl 0, bl_len, sizeLine_eq]
          omega
        rw [show Txt.mul (" " : Str) 0 ++ t.s = t.s by rw [show Txt.mul (" " : Str) 0 = bl_ 0 from mul_bl 0]; exact empty_app t.s]
        refine ⟨p2, l, t.s, _, _, _, _, _, rfl, S11.mono (by omega), kp2.trans ((Kp.of s29).trans (kp10.trans (Kp.of sp2))), ep2, (S10.free hp2).1, (S10.free hp2).2.1, .inr (.inl ⟨Nat.le_refl _, hc1, hlt, hl2, ?_, ?_⟩)⟩
        · have e : ws.take (0 + 1) = [t.s] := by
            rw [List.take_succ, hw0]
            rfl
          rw [e]
          exact row_one htk
        · have := htk.1
          omega
      · -- a word
        rw [if_neg (by omega)] at hti
        have hwi : ws[i]? = some t.s := by
          rw [List.getElem?_append_left h1] at hs
          exact hs
        have htk := hok t.s (List.mem_of_getElem? hwi)
        have hnn := hne t.s (List.mem_of_getElem? hwi)
        have hlen1 := okT_len htk
        have h8 := htk.1
        obtain ⟨hft, hf2, hRP, hRl⟩ : (∀ f ∈ fs, TailOk f) ∧ fs.length ≤ 2 ∧ RowP R (ws.take i) ∧ R.length ≤ 12 * i := by
          rcases NZ with ⟨h, _⟩ | ⟨_, _, h⟩ | ⟨h, _⟩
          · omega
          · exact h
          · omega
        have hR1 := hRP.len
        have zs : t.s.length ≤ sizeLine := by rw [sizeLine_eq]; omega
        have zR : R.length ≤ sizeLine := by rw [sizeLine_eq]; omega
        rw [hti]
        refine ⟨_, rfl, rfl, _, rfl, ?_⟩
        refine iteF ?_
        refine ⟨_, rfl, (by show 2 ≤ sizeLine; decide), fun q1 hq1 => ?_⟩
        generalize hH3 : upd H2 q1 _ = H3
        obtain ⟨sq1, eq1⟩ := freshF hq1 hH3
        have S3 := S2.keep sq1
        refine ⟨q1, _, rfl, .inl (SqL.of eq1), rfl, rfl, _, rfl, ?_⟩
        rw [show (if false = true then !inV (V.str t.s) [V.str "\n", V.str ""] else inV (V.str t.s) [V.str "\n", V.str ""]) = decide (t.s ∈ (["\n", ""] : List Str)) from inV_str (ts := ["\n", ""])]
        have nin : ¬ t.s ∈ (["\n", ""] : List Str) := fun z => by
          simp only [List.mem_cons, List.not_mem_nil, or_false] at z
          rcases z with z | z
          · exact hnn z
          · rw [z] at hlen1
            exact absurd hlen1 (by decide +kernel)
        refine ifF (decide_eq_false nin) ?_
        refine ⟨fun σ H' => ∃ gp : Nat, σ = [some (.ref d), some (.ref a), some (.str Ltr), some (.ref p), some (.str R), some (.int t.n), some (.int t.c), some .non, some (.str t.s), some (.int (gp : Nat))] ∧ gp ≤ 4 ∧ (isW ((tl t.s).getD 0 0) = true → isW (lastC R) = true → 1 ≤ gp) ∧ StA H' d g c (n + 3 * i + 1) ∧ Kp d g H3 H', ?_, ?_⟩
        · refine ⟨_, rfl, t.s, 0, _, rfl, rfl, zs, first_sign hlen1, _, rfl, _, _, rfl, rfl, _, rfl, ?_⟩
          rw [show decide ((tl t.s).getD 0 0 ∈ Ltr.cps.toList) = isW ((tl t.s).getD 0 0) from ltr_mem _]
          have fin : ∀ (kk : Bool) (v : V), v ∈ [V.int 0, V.int 0, V.int 1, V.int 3] → (isW ((tl t.s).getD 0 0) = true → isW (lastC R) = true → kk = true) → ∃ m : Nat, v = .int (m : Nat) ∧ ∃ gp : Nat, (if kk = true then (1 : Int) else 0) + (m : Int) = (gp : Int) ∧ gp ≤ 4 ∧ (isW ((tl t.s).getD 0 0) = true → isW (lastC R) = true → 1 ≤ gp) := by
            intro kk v hv hk
            obtain ⟨m, rfl, hm⟩ : ∃ m : Nat, v = .int (m : Nat) ∧ m ≤ 3 := by
              simp only [List.mem_cons, List.not_mem_nil, or_false] at hv
              rcases hv with rfl | rfl | rfl | rfl
              · exact ⟨0, rfl, by decide⟩
              · exact ⟨0, rfl, by decide⟩
              · exact ⟨1, rfl, by decide⟩
              · exact ⟨3, rfl, by decide⟩
            refine ⟨m, rfl, (if kk = true then 1 else 0) + m, ?_, ?_, fun a b => ?_⟩
            · cases kk <;> simp
            · cases kk <;> simp <;> omega
            · rw [hk a b]
              simp
          cases hf : isW ((tl t.s).getD 0 0) with
          | false =>
            refine ifF rfl ?_
            refine .inr ⟨false, rfl, ?_⟩
            refine ⟨_, rfl, (by show 4 ≤ sizeLine; decide), fun q2 hq2 => ?_⟩
            generalize hH4 : upd H3 q2 _ = H4
            obtain ⟨sq2, eq2⟩ := freshF hq2 hH4
            have S4 := S3.keep sq2
            refine ⟨d, g, c, q2, _, _, rfl, S4, by omega, eq2, (S3.free hq2).2.1, by simp, (by show 4 ≤ 1000000; decide), fun v H5 hv S5 kp5 => ?_⟩
            obtain ⟨m, rfl, gp, e, hg4, hgp⟩ := fin false v hv (fun z => by rw [hf] at z; cases z)
            refine ⟨_, _, rfl, rfl, ?_⟩
            exact ⟨gp, (by rw [← e]; rfl), hg4, fun z => (by rw [hf] at hgp; exact hgp z), S5, (Kp.of sq2).trans kp5⟩
          | true =>
            refine ifT rfl ?_
            have hz := last_at hR1
            refine ⟨_, rfl, _, rfl, R, rfl, zR, _, _, rfl, rfl, R, _, _, rfl, rfl, zR, hz, _, rfl, _, _, rfl, rfl, ?_⟩
            rw [show decide (lastC R ∈ Ltr.cps.toList) = isW (lastC R) from ltr_mem _]
            refine .inr ⟨_, rfl, ?_⟩
            refine ⟨_, rfl, (by show 4 ≤ sizeLine; decide), fun q2 hq2 => ?_⟩
            generalize hH4 : upd H3 q2 _ = H4
            obtain ⟨sq2, eq2⟩ := freshF hq2 hH4
            have S4 := S3.keep sq2
            refine ⟨d, g, c, q2, _, _, rfl, S4, by omega, eq2, (S3.free hq2).2.1, by simp, (by show 4 ≤ 1000000; decide), fun v H5 hv S5 kp5 => ?_⟩
            obtain ⟨m, rfl, gp, e, hg4, hgp⟩ := fin (isW (lastC R)) v hv (fun _ z => z)
            refine ⟨_, _, rfl, rfl, ?_⟩
            exact ⟨gp, (by rw [← e]; rfl), hg4, fun z => (by rw [hf] at hgp; exact hgp z), S5, (Kp.of sq2).trans kp5⟩
        · rintro σ H4 ⟨gp, rfl, hg4, hgp, S4, kp4⟩
          have emul : Txt.mul (" " : Str) ((gp : Nat) : Int) = bl_ gp := mul_bl ⟨gp, by omega⟩
          refine ⟨_, rfl, _, rfl, _, _, rfl, rfl, by omega, by omega, (by decide +kernel), _, _, rfl, rfl, ?_, _, rfl, _, _, rfl, rfl, ?_, ?_⟩
          · rw [emul, bl_len, sizeLine_eq]
            omega
          · rw [emul, app_len, bl_len, sizeLine_eq]
            omega
          rw [emul]
          refine ⟨p, fs, R ++ bl_ gp ++ t.s, _, _, _, _, _, rfl, S4.mono (by omega), kp2.trans ((Kp.of sq1).trans kp4), kp4 _ _ (sq1 _ _ e2) hpd hpg, hpd, hpg, .inr (.inl ⟨by omega, by omega, hft, hf2, ?_, ?_⟩)⟩
          · have e : ws.take (i + 1) = ws.take i ++ [t.s] := by
              rw [List.take_succ, hwi]
              rfl
            rw [e]
            exact row_step hRP htk hgp
          · rw [app_len, app_len, bl_len]
            omega
      · -- the end of the line
        rw [if_neg (by omega)] at hti
        have hnl : t.s = nlS := by
          rw [List.getElem?_append_right (by omega), h0, Nat.sub_self] at hs
          exact (Option.some.inj hs).symm
        obtain ⟨hft, hf2, hRP, hRl⟩ : (∀ f ∈ fs, TailOk f) ∧ fs.length ≤ 2 ∧ RowP R (ws.take i) ∧ R.length ≤ 12 * i := by
          rcases NZ with ⟨h, _⟩ | ⟨_, _, h⟩ | ⟨h, _⟩
          · omega
          · exact h
          · omega
        rw [h0, List.take_length] at hRP
        rw [hti, hnl]
        refine ⟨_, rfl, rfl, _, rfl, ?_⟩
        refine iteF ?_
        refine ⟨_, rfl, (by show 2 ≤ sizeLine; decide), fun q1 hq1 => ?_⟩
        generalize hH3 : upd H2 q1 _ = H3
        obtain ⟨sq1, eq1⟩ := freshF hq1 hH3
        have S3 := S2.keep sq1
        refine ⟨q1, _, rfl, .inl (SqL.of eq1), rfl, rfl, _, rfl, ?_⟩
        rw [show (if false = true then !inV (V.str nlS) [V.str "\n", V.str ""] else inV (V.str nlS) [V.str "\n", V.str ""]) = decide (nlS ∈ (["\n", ""] : List Str)) from inV_str (ts := ["\n", ""])]
        refine ifT (by decide +kernel) ?_
        refine ⟨_, rfl, _, rfl, rfl, _, rfl, ?_⟩
        rw [dec_str]
        refine ifT (by decide +kernel) ?_
        refine ⟨_, rfl, _, rfl, (by show 6 ≤ sizeLine; decide), fun q2 hq2 => ?_⟩
        generalize hH4 : upd H3 q2 _ = H4
        obtain ⟨sq2, eq2⟩ := freshF hq2 hH4
        have S4 := S3.keep sq2
        refine ⟨d, g, c, q2, _, _, rfl, S4, by omega, eq2, (S3.free hq2).2.1, by simp, (by show 6 ≤ 1000000; decide), fun v H5 hv S5 kp5 => ?_⟩
        obtain ⟨tt, htt, rfl⟩ : ∃ tt, tt ∈ tls6 ∧ V.str tt = v := List.mem_map.mp (show v ∈ tls6.map V.str from hv)
        have hto := tls6_ok tt htt
        have htl := hto.2.2
        refine ⟨_, _, rfl, rfl, (by rw [sizeLine_eq]; omega), (by show 1 ≤ sizeLine; decide), fun q3 hq3 => ?_⟩
        generalize hH6 : upd H5 q3 _ = H6
        obtain ⟨sq3, eq3⟩ := freshF hq3 hH6
        have S6 := S5.keep sq3
        have e6 := sq3 _ _ (kp5 _ _ (sq2 _ _ (sq1 _ _ e2)) hpd hpg)
        refine ⟨p, q3, _, _, rfl, rfl, e6, eq3, (by rw [List.length_map, sizeLine_eq]; show fs.length + 1 ≤ _; omega), fun p2 hp2 => ?_⟩
        generalize hH7 : upd H6 p2 _ = H7
        obtain ⟨sp2, ep2⟩ := freshF hp2 hH7
        refine ⟨p2, fs ++ [R ++ tt], R, _, _, _, _, _, rfl, (S6.keep sp2).mono (by omega), kp2.trans (((Kp.of sq1).trans (Kp.of sq2)).trans (kp5.trans ((Kp.of sq3).trans (Kp.of sp2)))), by rw [List.map_append]; exact ep2, (S6.free hp2).1, (S6.free hp2).2.1, .inr (.inr ⟨by omega, fs, R, tt, rfl, hft, hf2, hRP, by omega, hto⟩)⟩
      · -- the end of the text
        rw [if_neg (by omega)] at hti
        have het : t.s = etS := by
          rw [List.getElem?_append_right (by omega), h0, show ws.length + 1 - ws.length = 1 by omega] at hs
          exact (Option.some.inj hs).symm
        have hfew := NZ.few
        rw [hti, het]
        refine ⟨_, rfl, rfl, _, rfl, ?_⟩
        refine iteF ?_
        refine ⟨_, rfl, (by show 2 ≤ sizeLine; decide), fun q1 hq1 => ?_⟩
        generalize hH3 : upd H2 q1 _ = H3
        obtain ⟨sq1, eq1⟩ := freshF hq1 hH3
        have S3 := S2.keep sq1
        refine ⟨q1, _, rfl, .inl (SqL.of eq1), rfl, rfl, _, rfl, ?_⟩
        rw [show (if false = true then !inV (V.str etS) [V.str "\n", V.str ""] else inV (V.str etS) [V.str "\n", V.str ""]) = decide (etS ∈ (["\n", ""] : List Str)) from inV_str (ts := ["\n", ""])]
        refine ifT (by decide +kernel) ?_
        refine ⟨_, rfl, _, rfl, rfl, _, rfl, ?_⟩
        rw [dec_str]
        refine ifF (by decide +kernel) ?_
        refine ⟨Nat.zero_le _, fun q3 hq3 => ?_⟩
        generalize hH4 : upd H3 q3 _ = H4
        obtain ⟨sq3, eq3⟩ := freshF hq3 hH4
        have S4 := S3.keep sq3
        refine ⟨p, q3, _, _, rfl, rfl, sq3 _ _ (sq1 _ _ e2), eq3, (by rw [List.length_map, sizeLine_eq]; show fs.length + 0 ≤ _; omega), fun p2 hp2 => ?_⟩
        generalize hH5 : upd H4 p2 _ = H5
        obtain ⟨sp2, ep2⟩ := freshF hp2 hH5
        rw [List.append_nil] at ep2
        refine ⟨p2, fs, R, _, _, _, _, _, rfl, (S4.keep sp2).mono (by omega), kp2.trans (Kp.of ((sq1.trans sq3).trans sp2)), ep2, (S4.free hp2).1, (S4.free hp2).2.1, ?_⟩
        rcases NZ with ⟨h, _⟩ | ⟨_, h, _⟩ | ⟨h, r⟩
        · omega
        · omega
        · exact .inr (.inr ⟨by omega, r⟩)
    · rintro σ H2 ⟨p, fs, R, lv, cv, iv, wv, gv, rfl, S2, kp2, e2, hpd, hpg, NZ⟩
      obtain ⟨fs', R', tt, rfl, hft, hf2, hRP, hRl, hto⟩ : ∃ fs' R' t, fs = fs' ++ [R' ++ t] ∧ (∀ f ∈ fs', TailOk f) ∧ fs'.length ≤ 2 ∧ RowP R' ws ∧ R'.length ≤ 12 * ws.length ∧ TailOk t := by
        rcases NZ with ⟨h, _⟩ | ⟨_, h, _⟩ | ⟨_, r⟩
        · omega
        · omega
        · exact r
      have htl := hto.2.2
      obtain ⟨n1, n2, n3⟩ := noisy_ok hft hRP (fun z => by rw [z] at hc1; exact absurd hc1 (by decide)) hto
      have hsum : ((fs' ++ [R' ++ tt]).map (·.length)).sum ≤ 20 + 12 * 818 + 10 := by
        rw [List.map_append, List.sum_append]
        have h1 := sum_lens (B := 10) fun x hx => (hft x hx).2.2
        have h2 : fs'.length * 10 ≤ 2 * 10 := Nat.mul_le_mul_right _ hf2
        show _ + ((R' ++ tt).length + 0) ≤ _
        rw [app_len]
        omega
      refine ⟨⟨_, rfl⟩, _, rfl, nlS, p, _, rfl, rfl, .inl (SqL.of e2), ?_, ?_⟩
      · have : nlS.length = 1 := by decide +kernel
        rw [this, List.length_append, List.length_singleton]
        omega
      refine k _ H2 ?_ ?_ n2 n3 (S2.mono (by omega)) kp2
      · have hj := join_len nlS (fs' ++ [R' ++ tt])
        have : nlS.length = 1 := by decide +kernel
        rw [this, List.length_append, List.length_singleton] at hj
        omega
      · rw [n1, List.length_append, List.length_singleton]
        omega
end
end K3

set_option Elab.async false
set_option linter.all false
set_option pp.maxSteps 700
set_option maxRecDepth 100000
set_option maxHeartbeats 4000000
namespace K3
open PySem PySem.Spec PyProof.Rows L2
open TL (tl)
/-! ### plain signs -/
theorem as_app {x y : Str} (h1 : asc x) (h2 : asc y) : asc (x ++ y) := fun c hc => by
  rw [TL.tl_append] at hc
  rcases List.mem_append.mp hc with hc | hc
  · exact h1 c hc
  · exact h2 c hc
theorem isW_lt {c : Nat} (h : isW c = true) : c < 128 := by
  have : ∀ x ∈ WS.cps.toList, x < 128 := by decide +kernel
  unfold isW at h
  exact this c (of_decide_eq_true h)
theorem as_W {x : Str} (h : ∀ c ∈ tl x, isW c = true) : asc x := fun c hc => isW_lt (h c hc)
theorem as_of {x : Str} (h : (tl x).all (fun c => decide (c < 128)) = true) : asc x := fun c hc => by
  have := List.all_eq_true.mp h c hc
  exact of_decide_eq_true this
theorem as_join {sep : Str} (hs : asc sep) : ∀ l : List Str, (∀ x ∈ l, asc x) → asc (Txt.join sep l)
  | [], _ => by
    show asc (Builtin.Str.glued _ _)
    rw [StrLaws.glued_eq_join]
    intro c hc
    have hc : c ∈ tl Str.empty := hc
    have e : tl Str.empty = [] := rfl
    rw [e] at hc
    cases hc
  | [x], h => by
    rw [join_one]
    exact h x List.mem_cons_self
  | x :: y :: r, h => by
    rw [join_cons2]
    exact as_app (as_app (h x List.mem_cons_self) hs) (as_join hs (y :: r) fun z hz => h z (List.mem_cons_of_mem _ hz))
theorem txt_asc : ∀ (n : Nat) (d : Dt), formed (n + 1) d = true → asc (txtN (n + 1) d)
  | n, d, h => by
    rcases formed_cases h with ⟨s, rfl, hs⟩ | ⟨m, hm, ⟨l, rfl, h1, h2, h3, _⟩ | ⟨i, z, rfl, h1, h2, h3⟩⟩
    · rw [txt_str]
      exact as_W (plain_W hs).2
    · obtain rfl : n = m + 1 := by omega
      rw [txt_two]
      show asc ((("record(" : Str) ++ Txt.join (", " : Str) (l.map (fTx (txtN (m + 1))))) ++ (")" : Str))
      refine as_app (as_app (as_of (by decide +kernel)) (as_join (as_of (by decide +kernel)) _ fun x hx => ?_)) (as_of (by decide +kernel))
      obtain ⟨p, hp, rfl⟩ := List.mem_map.mp hx
      obtain ⟨s, y, rfl, hs, hy⟩ := pairF_of (h3 p hp)
      exact as_app (as_app (as_W (name_W hs).2) (as_of (by decide +kernel))) (txt_asc m y hy)
    · obtain rfl : n = m + 1 := by omega
      rw [txt_two]
      show asc (((("row " : Str) ++ iTx i) ++ (" " : Str)) ++ txtN (m + 1) z)
      exact as_app (as_app (as_app (as_of (by decide +kernel)) (as_W (iTx_W' h1 h2).2)) (as_of (by decide +kernel))) (txt_asc m z h3)
  termination_by n => n
  decreasing_by all_goals omega
/-! ### words of a row -/
theorem wl_all (l : List Nat) : (∀ x ∈ wl l, ∀ c ∈ tl x, c ∈ l) ∧ ((wl l).map (·.length)).sum ≤ l.length ∧ (wl l).length ≤ l.length := by
  induction l using wl.induct with
  | case1 =>
    rw [wl_nil]
    exact ⟨fun x hx => (by cases hx), Nat.le_refl _, Nat.le_refl _⟩
  | case2 r ih =>
    rw [wl_sp]
    refine ⟨fun x hx c hc => List.mem_cons_of_mem _ (ih.1 x hx c hc), ?_, ?_⟩
    · rw [List.length_cons]
      omega
    · rw [List.length_cons]
      omega
  | case3 c r h1 h2 ih =>
    rw [wl_w h1 h2]
    have e := (tw_take isW r).1
    have ld := congrArg List.length (List.takeWhile_append_dropWhile (p := isW) (l := r))
    rw [List.length_append] at ld
    refine ⟨fun x hx d hd => ?_, ?_, ?_⟩
    · rcases List.mem_cons.mp hx with rfl | hx
      · have hd : d ∈ c :: r.takeWhile isW := hd
        rcases List.mem_cons.mp hd with rfl | hd
        · exact List.mem_cons_self
        · exact List.mem_cons_of_mem _ ((List.takeWhile_sublist isW).subset hd)
      · exact List.mem_cons_of_mem _ ((List.dropWhile_sublist isW).subset (ih.1 x hx d hd))
    · have e2 : (⟨(c :: r.takeWhile isW).toArray⟩ : Str).length = (r.takeWhile isW).length + 1 := rfl
      rw [List.map_cons, List.sum_cons, e2, List.length_cons]
      omega
    · rw [List.length_cons, List.length_cons]
      omega
  | case4 c r h1 h2 ih =>
    rw [wl_sign h1 (Bool.eq_false_iff.mpr h2)]
    refine ⟨fun x hx d hd => ?_, ?_, ?_⟩
    · rcases List.mem_cons.mp hx with rfl | hx
      · have hd : d ∈ [c] := hd
        rw [List.mem_singleton.mp hd]
        exact List.mem_cons_self
      · exact List.mem_cons_of_mem _ (ih.1 x hx d hd)
    · have e2 : (⟨#[c]⟩ : Str).length = 1 := rfl
      rw [List.map_cons, List.sum_cons, e2, List.length_cons]
      omega
    · rw [List.length_cons, List.length_cons]
      omega
/-- the tokens of a plain text of one row -/
theorem plain_toks {z : Str} (sg : sgOk z) (hf : ∃ c r, tl z = c :: r ∧ c ≠ 32) : (allToks z).map Tok.s = wl (tl z) ++ [nlS, etS] ∧ wl (tl z) ≠ [] := by
  have h1 := split_one fun c hc => (sg c hc).1
  have h2 := body_one fun c hc => (sg c hc).2
  obtain ⟨c, r, e0, hc⟩ := hf
  have tne : wl (tl z) ≠ [] := by
    rw [e0]
    cases hw : isW c with
    | true => rw [wl_w hc hw]; simp
    | false => rw [wl_sign hc hw]; simp
  refine ⟨?_, tne⟩
  have ea : allToks z = lineToks (((0 : Nat) : Int) + 1) (tl z) ++ [⟨((Txt.split z nlS).length : Int) + 1, 1, none, etS⟩] := by
    unfold allToks
    rw [h1]
    show (lineToks (((0 : Nat) : Int) + 1) (tl (bodyOf z)) ++ []) ++ _ = _
    rw [h2, List.append_nil]
  have hlw := line_wl (((0 : Nat) : Int) + 1) (tl z)
  rw [if_neg tne] at hlw
  rw [ea, List.map_append]
  have hlw : (lineToks (((0 : Nat) : Int) + 1) (tl z)).map Tok.s = wl (tl z) ++ [nlS] := hlw
  rw [hlw, List.append_assoc]
  rfl
/-- words that may stand in a text again -/
structure WsOk (ws : List Str) (B L : Nat) : Prop where
  ok : ∀ x ∈ ws, asc x ∧ ∀ c ∈ tl x, c ≠ 10
  sum : (ws.map (·.length)).sum ≤ B
  cnt : ws.length ≤ L
theorem ws_kind {d : Dt} (h : formed 4 d = true) : (allToks (txtN 4 d)).map Tok.s = tkN 4 d ++ [nlS, etS] ∧ tkN 4 d ≠ [] ∧ WsOk (tkN 4 d) 8000 1000 := by
  have sg := txt_sg 3 d h
  have as := txt_asc 3 d h
  obtain ⟨h1, h2⟩ := plain_toks sg (txt_first h)
  have wlx : wl (tl (txtN 4 d)) = tkN 4 d := by
    have := txt_wl 3 d h [] (fun c hc => by cases hc)
    rw [List.append_nil, wl_nil, List.append_nil] at this
    exact this
  obtain ⟨w1, w2, w3⟩ := wl_all (tl (txtN 4 d))
  rw [wlx] at h1 h2 w1 w2
  have hl : (txtN 4 d).length ≤ Bt 3 := txt_len 3 d h
  have hB : Bt 3 = 4478 := rfl
  rw [hB, TL.len_tl] at hl
  have hc : (tkN 4 d).length ≤ Ct 3 := (tk_cnt 3 d h).2
  rw [Ct_3] at hc
  exact ⟨h1, h2, ⟨fun x hx => ⟨fun c hc => as c (w1 x hx c hc), fun c hc => (sg c (w1 x hx c hc)).1⟩, by omega, by omega⟩⟩
theorem ws_near {z : Str} (sg : sgOk z) (as : asc z) (hf : ∃ c r, tl z = c :: r ∧ c ≠ 32) (hl : z.length ≤ 1000) : (allToks z).map Tok.s = wl (tl z) ++ [nlS, etS] ∧ wl (tl z) ≠ [] ∧ WsOk (wl (tl z)) 8000 1000 := by
  obtain ⟨h1, h2⟩ := plain_toks sg hf
  obtain ⟨w1, w2, w3⟩ := wl_all (tl z)
  rw [TL.len_tl] at hl
  exact ⟨h1, h2, ⟨fun x hx => ⟨fun c hc => as c (w1 x hx c hc), fun c hc => (sg c (w1 x hx c hc)).1⟩, by omega, by omega⟩⟩
theorem sum_take (ws : List Str) (i : Nat) : ((ws.take i).map (·.length)).sum + ((ws.drop i).map (·.length)).sum = (ws.map (·.length)).sum := by
  rw [← List.sum_append, ← List.map_append, List.take_append_drop]
theorem sum_drop (ws : List Str) (i : Nat) : ((ws.drop (i + 1)).map (·.length)).sum ≤ ((ws.drop i).map (·.length)).sum := by
  rcases Nat.lt_or_ge i ws.length with h | h
  · rw [List.drop_eq_getElem_cons h, List.map_cons, List.sum_cons]
    omega
  · rw [List.drop_eq_nil_of_le (by omega)]
    exact Nat.zero_le _
/-- the five ways to bend a row of words -/
def bent5 (ws : List Str) (o : Str) (i : Nat) : List (List Str) := [ws.take i ++ [o] ++ ws.drop (i + 1), ws.take i ++ [o] ++ ws.drop i, ws.take i, ws.take i ++ ws.drop (i + 1), ws ++ [o]]
theorem bent5_ok {ws : List Str} {o : Str} {B L : Nat} (h : WsOk ws B L) (ho : asc o ∧ ∀ c ∈ tl o, c ≠ 10) (hl : o.length ≤ 6) (i : Nat) : ∀ ys ∈ bent5 ws o i, WsOk ys (B + 6) (L + 1) := by
  intro ys hy
  have s1 := sum_take ws i
  have s2 := sum_drop ws i
  have s3 := h.sum
  have c0 := h.cnt
  have ok1 : ∀ x ∈ ws.take i, asc x ∧ ∀ c ∈ tl x, c ≠ 10 := fun x hx => h.ok x (List.mem_of_mem_take hx)
  have ok2 : ∀ j, ∀ x ∈ ws.drop j, asc x ∧ ∀ c ∈ tl x, c ≠ 10 := fun j x hx => h.ok x (List.mem_of_mem_drop hx)
  have hadd : ∀ {a b : List Str}, (∀ x ∈ a, asc x ∧ ∀ c ∈ tl x, c ≠ 10) → (∀ x ∈ b, asc x ∧ ∀ c ∈ tl x, c ≠ 10) → ∀ x ∈ a ++ b, asc x ∧ ∀ c ∈ tl x, c ≠ 10 := fun ha hb x hx => (List.mem_append.mp hx).elim (ha x) (hb x)
  have oo : ∀ x ∈ [o], asc x ∧ ∀ c ∈ tl x, c ≠ 10 := fun x hx => by rw [List.mem_singleton.mp hx]; exact ho
  have lt : (ws.take i).length ≤ i ∧ (ws.take i).length ≤ ws.length := by rw [List.length_take]; omega
  have ld : ∀ j, (ws.drop j).length = ws.length - j := fun j => List.length_drop ..
  have lt2 : (ws.take i).length = min i ws.length := List.length_take ..
  simp only [bent5, List.mem_cons, List.not_mem_nil, or_false] at hy
  rcases hy with rfl | rfl | rfl | rfl | rfl
  · refine ⟨hadd (hadd ok1 oo) (ok2 _), ?_, ?_⟩
    · simp only [List.map_append, List.sum_append, List.map_cons, List.map_nil, List.sum_cons, List.sum_nil]
      omega
    · simp only [List.length_append, List.length_cons, List.length_nil, ld, lt2]
      omega
  · refine ⟨hadd (hadd ok1 oo) (ok2 _), ?_, ?_⟩
    · simp only [List.map_append, List.sum_append, List.map_cons, List.map_nil, List.sum_cons, List.sum_nil]
      omega
    · simp only [List.length_append, List.length_cons, List.length_nil, ld, lt2]
      omega
  · exact ⟨ok1, by omega, by omega⟩
  · refine ⟨hadd ok1 (ok2 _), ?_, ?_⟩
    · simp only [List.map_append, List.sum_append]
      omega
    · simp only [List.length_append, ld, lt2]
      omega
  · refine ⟨hadd h.ok oo, ?_, ?_⟩
    · simp only [List.map_append, List.sum_append, List.map_cons, List.map_nil, List.sum_cons, List.sum_nil]
      omega
    · simp only [List.length_append, List.length_cons, List.length_nil]
      omega
/-- a text that may be read -/
structure TxtOk (z : Str) : Prop where
  len : z.length ≤ 9999
  rows : (Txt.split z nlS).length ≤ 1500
  as : asc z
theorem join_nil (sep : Str) : Txt.join sep [] = Str.empty := by
  show Builtin.Str.glued _ _ = _
  rw [StrLaws.glued_eq_join]
  rfl
theorem txt_sp {ys : List Str} (h : WsOk ys 8006 1001) : TxtOk (Txt.join (" " : Str) ys) := by
  have hj := join_len (" " : Str) ys
  have e : (" " : Str).length = 1 := by decide +kernel
  have h1 := h.sum
  have h2 := h.cnt
  refine ⟨by rw [e] at hj; omega, ?_, as_join (as_of (by decide +kernel)) _ fun x hx => (h.ok x hx).1⟩
  have hs : ∀ c ∈ tl (Txt.join (" " : Str) ys), c ≠ 10 := by
    have : ∀ l : List Str, (∀ x ∈ l, ∀ c ∈ tl x, c ≠ 10) → ∀ c ∈ tl (Txt.join (" " : Str) l), c ≠ 10 := by
      intro l
      induction l with
      | nil =>
        intro _ c hc
        rw [join_nil] at hc
        cases hc
      | cons x r ih =>
        intro hl c hc
        cases r with
        | nil =>
          rw [join_one] at hc
          exact hl x List.mem_cons_self c hc
        | cons y r =>
          rw [join_cons2, TL.tl_append, TL.tl_append] at hc
          rcases List.mem_append.mp hc with hc | hc
          · rcases List.mem_append.mp hc with hc | hc
            · exact hl x List.mem_cons_self c hc
            · have : c ∈ [32] := hc
              rw [List.mem_singleton.mp this]
              decide
          · exact ih (fun z hz => hl z (List.mem_cons_of_mem _ hz)) c hc
    exact this ys fun x hx => (h.ok x hx).2
  rw [split_one hs]
  exact (by decide : 1 ≤ 1500)
theorem txt_nl {ys : List Str} (h : WsOk ys 8006 1001) : TxtOk (Txt.join nlS ys) := by
  have hj := join_len nlS ys
  have e : nlS.length = 1 := by decide +kernel
  have h1 := h.sum
  have h2 := h.cnt
  refine ⟨by rw [e] at hj; omega, ?_, as_join (as_of (by decide +kernel)) _ fun x hx => (h.ok x hx).1⟩
  cases ys with
  | nil =>
    rw [join_nil, split_one fun c hc => by cases hc]
    exact (by decide : 1 ≤ 1500)
  | cons x r =>
    rw [TL.split_join (s := 10) (S := []) tl_nl (by decide +kernel) (by simp) fun p hp z => (h.ok p hp).2 10 z rfl]
    omega
theorem cut_from {ys : List Str} {m : Nat} (h : m ≤ ys.length) : cutV (ys.map V.str) (some (m : Int)) none = (ys.drop m).map V.str := by
  unfold cutV
  rw [HT.sIx_nat, HT.sIx_none, List.length_map]
  have e : min m ys.length = m := by omega
  rw [e, List.map_drop]
  first
    | rfl
    | (rw [List.take_of_length_le (by rw [List.length_drop, List.length_map] <;> omega)])
/-! ### texts that are near to what is too great -/
structure NrP (z : Str) : Prop where
  all : (tl z).all (fun c => c != 10 && (c != 35 && decide (c < 128))) = true
  len : z.length ≤ 400
  fst : (tl z).head? = some 114
theorem NrP.sg {z : Str} (h : NrP z) : sgOk z := fun c hc => by
  have := List.all_eq_true.mp h.all c hc
  simp at this
  exact ⟨this.1, this.2.1⟩
theorem NrP.as {z : Str} (h : NrP z) : asc z := fun c hc => by
  have := List.all_eq_true.mp h.all c hc
  simp at this
  exact this.2.2
theorem NrP.one {z : Str} (h : NrP z) : ∃ c r, tl z = c :: r ∧ c ≠ 32 := by
  have := h.fst
  cases e : tl z with
  | nil => rw [e] at this; cases this
  | cons c r =>
    rw [e] at this
    obtain rfl := Option.some.inj this
    exact ⟨_, _, rfl, by decide⟩
theorem NrP.ok {z : Str} (h : NrP z) : TxtOk z := by
  refine ⟨by have := h.len; omega, ?_, h.as⟩
  rw [split_one fun c hc => (h.sg c hc).1]
  exact (by decide : 1 ≤ 1500)
def plA (z : Str) : Bool := (tl z).all (fun c => c != 10 && (c != 35 && decide (c < 128)))
theorem plA_app {x y : Str} (h1 : plA x = true) (h2 : plA y = true) : plA (x ++ y) = true := by
  unfold plA at *
  rw [TL.tl_append, List.all_append, h1, h2]
  rfl
theorem plA_join {sep : Str} (hs : plA sep = true) : ∀ l : List Str, (∀ x ∈ l, plA x = true) → plA (Txt.join sep l) = true
  | [], _ => by
    rw [join_nil]
    rfl
  | [x], h => by
    rw [join_one]
    exact h x List.mem_cons_self
  | x :: y :: r, h => by
    rw [join_cons2]
    exact plA_app (plA_app (h x List.mem_cons_self) hs) (plA_join hs (y :: r) fun z hz => h z (List.mem_cons_of_mem _ hz))
theorem head_app {x y : Str} {c : Nat} (h : (tl x).head? = some c) : (tl (x ++ y)).head? = some c := by
  rw [TL.tl_append]
  cases e : tl x with
  | nil => rw [e] at h; cases h
  | cons a r => rw [e] at h; exact h
end K3

set_option Elab.async false
set_option linter.all false
set_option pp.maxSteps 700
set_option maxRecDepth 100000
set_option maxHeartbeats 4000000
namespace K3
open PySem PySem.Spec PyProof.Rows L2
open TL (tl)
abbrev sBnt : Stmt := top 70
def oth18 : List Str := ["row", "record", "(", ")", ",", "number", "truth", "64", "65", "6", "7", "0", "07", "2", "Ab", "b", "a", "if"]
theorem oth18_ok : ∀ o ∈ oth18, (asc o ∧ ∀ c ∈ tl o, c ≠ 10) ∧ o.length ≤ 6 := by
  have h : oth18.all (fun o => (tl o).all (fun c => c != 10 && decide (c < 128)) && decide (o.length ≤ 6)) = true := by decide +kernel
  intro o ho
  have := List.all_eq_true.mp h o ho
  rw [Bool.and_eq_true, decide_eq_true_iff] at this
  refine ⟨⟨fun c hc => ?_, fun c hc => ?_⟩, this.2⟩
  · have := List.all_eq_true.mp this.1 c hc
    simp at this
    exact this.2
  · have := List.all_eq_true.mp this.1 c hc
    simp at this
    exact this.1
theorem cut_to {xs : List V} {m : Nat} (h : m ≤ xs.length) : cutV xs none (some (m : Int)) = xs.take m := by
  unfold cutV
  rw [HT.sIx_none, List.drop_zero, HT.sIx_nat]
  have e : min m xs.length = m := by omega
  rw [e, Nat.sub_zero]
def spBnt : Sp := fun vs H Q _ => ∃ (d g c a : Addr) (n : Nat) (xs : List V) (ts : List Tok) (ws : List Str), vs = [.ref d, .ref a] ∧ StA H d g c n ∧ n ≤ 900000000 ∧ H a = some (.lst xs) ∧ Paired (TokAt H) xs ts ∧
  ts.map Tok.s = ws ++ [nlS, etS] ∧ ws ≠ [] ∧ WsOk ws 8000 1000 ∧ ∀ (z : Str) (H' : Hp), TxtOk z → StA H' d g c (n + 5) → Kp d g H H' → Q (.str z) H'
structure MgBn (K : PySem.W.Frag) (mg : Str → Option Value) (fD fP : Addr) : Prop where
  len : mg "len" = none
  dr : mg "_law_draw" = some (.ref fD)
  kdr : PySem.W.keepIn K (.ref fD) = true
  pk : mg "_law_pick" = some (.ref fP)
  kpk : PySem.W.keepIn K (.ref fP) = true
section
variable {P : Program} {w : World} {K : PySem.W.Frag} {mg : Str → Option Value} {base : Heap}
theorem scBnt : FnScope ["state", "tokens", "words", "way", "at", "other", "some", "line", "column", "indent", "word"] ["state", "tokens"] (defScope sBnt) := ⟨rfl, rfl, rfl, by decide +kernel, rfl, by decide +kernel, by decide +kernel⟩
theorem ok_bnt {f fD fP : Addr} {fd fdD fdP : FuncData} (F : Fun K "_law_bent" "_law_bent" sBnt f fd) (T : MgBn K mg fD fP) (GD : FnOk P w K mg base CX0 2 fD fdD ["state", "room"] spDrw) (bD : L2.Binds K fdD ["state", "room"] [])
    (GP : FnOk P w K mg base CX0 3 fP fdP ["state", "some"] spPck) (bP : L2.Binds K fdP ["state", "some"] []) : FnOk P w K mg base CX0 4 f fd ["state", "tokens"] spBnt := by
  refine F.ok scBnt (fun vs H Q E h => ?_) (fun cdv A outer s H vs Q E hr h => ?_)
  · obtain ⟨d, g, c, a, n, xs, ts, ws, rfl, _⟩ := h
    rfl
  · obtain ⟨d, g, c, a, n, xs, ts, ws, rfl, S, hn, ha, pr, hws, hne, hok, k⟩ := h
    have hr2 : Room 2 _ := hr.mono (by decide)
    refine ⟨_, (pss_cons (ps_setLc (i := 2) (own := [("line", 7), ("column", 8), ("indent", 9), ("word", 10)]) (g := gTup K 4 (gCons (gName 7) (gCons (gName 8) (gCons (gName 9) (gCons (gName 10) gNil))))) (tt := tYes) (by rfl) scBnt.nd rfl rfl (sw_true rfl rfl rfl (by decide +kernel)) (pi_list (pe_slice sl_list (pv 1) po_none (po_some (pe_op op_sub (pe_callB call_len_seq (by rfl) T.len PySem.boot_len (pa_cons (pv 1) pa_nil)) pe_int)))) (blkOk_by (own := [("line", 7), ("column", 8), ("indent", 9), ("word", 10)]) (N := ["state", "tokens", "words", "way", "at", "other", "some", "line", "column", "indent", "word"]) (sc := defScope sBnt) (by decide +kernel)) (fun _ _ _ _ _ => (pg_tup (by rfl) (pgs_cons (pg_name (i := 7) scBnt.nd rfl (Or.inl rfl)) (pgs_cons (pg_name (i := 8) scBnt.nd rfl (Or.inl rfl)) (pgs_cons (pg_name (i := 9) scBnt.nd rfl (Or.inl rfl)) (pgs_cons (pg_name (i := 10) scBnt.nd rfl (Or.inl rfl)) pgs_nil)))))) (fun _ _ _ _ _ => pts_nil) (fun _ _ _ _ _ => (pv 10)))
      (pss_cons (ps_par (i := 3) (j := 4) (by rfl) scBnt.nd rfl rfl (by decide) rfl rfl (pa_cons (pe_call GD hr2 (by rfl) T.dr T.kdr bD .nil pass0 (pa_cons (pv 0) (pa_cons pe_int pa_nil))) (pa_cons (pe_call GD hr2 (by rfl) T.dr T.kdr bD .nil pass0 (pa_cons (pv 0) (pa_cons (pe_callB call_len_seq (by rfl) T.len PySem.boot_len (pa_cons (pv 2) pa_nil)) pa_nil))) pa_nil)) (by rfl))
      (pss_cons (ps_set (i := 5) scBnt.nd rfl (Or.inl rfl) (pe_call GP hr (by rfl) T.pk T.kpk bP .nil pass0 (pa_cons (pv 0) (pa_cons (pe_lst (pa_cons pe_str (pa_cons pe_str (pa_cons pe_str (pa_cons pe_str (pa_cons pe_str (pa_cons pe_str (pa_cons pe_str (pa_cons pe_str (pa_cons pe_str (pa_cons pe_str (pa_cons pe_str (pa_cons pe_str (pa_cons pe_str (pa_cons pe_str (pa_cons pe_str (pa_cons pe_str (pa_cons pe_str (pa_cons pe_str pa_nil))))))))))))))))))) pa_nil))))
      (pss_cons (ps_set (i := 6) scBnt.nd rfl (Or.inl rfl) (pe_lst (pa_cons (pe_op op_cat (pe_op op_cat (pe_slice sl_list (pv 2) po_none (po_some (pv 4))) (pe_lst (pa_cons (pv 5) pa_nil))) (pe_slice sl_list (pv 2) (po_some (pe_op op_add (pv 4) pe_int)) po_none)) (pa_cons (pe_op op_cat (pe_op op_cat (pe_slice sl_list (pv 2) po_none (po_some (pv 4))) (pe_lst (pa_cons (pv 5) pa_nil))) (pe_slice sl_list (pv 2) (po_some (pv 4)) po_none)) (pa_cons (pe_slice sl_list (pv 2) po_none (po_some (pv 4))) (pa_cons (pe_op op_cat (pe_slice sl_list (pv 2) po_none (po_some (pv 4))) (pe_slice sl_list (pv 2) (po_some (pe_op op_add (pv 4) pe_int)) po_none)) pa_nil))))))
      (pss_cons (ps_set (i := 2) scBnt.nd rfl (Or.inl rfl) (pe_ix ix_list (pe_op op_cat (pv 6) (pe_lst (pa_cons (pe_op op_cat (pv 2) (pe_lst (pa_cons (pv 5) pa_nil))) pa_nil))) (pv 3) (fun _ _ => rfl)))
      (pss_one (ps_ret (pe_ifExp (pt_cmpR op_gt (pe_call GD hr2 (by rfl) T.dr T.kdr bD .nil pass0 (pa_cons (pv 0) (pa_cons pe_int pa_nil))) pe_int (nomark _)) (pe_join pe_str (pv 2)) (pe_join pe_str (pv 2)))))))))), ?_⟩
    have lx := paired_len pr
    have lt : ts.length = ws.length + 2 := by
      have := congrArg List.length hws
      rw [List.length_map, List.length_append] at this
      exact this
    have la : xs.length = ws.length + 2 := by omega
    refine ⟨_, rfl, _, rfl, a, _, rfl, .inl (SqL.of ha), _, _, rfl, rfl, _, rfl, a, _, rfl, SqL.of ha, fun p hp => ?_⟩
    have ecut : cutV xs none (some (((xs.length : Nat) : Int) - 2)) = xs.take ws.length := by
      rw [show ((xs.length : Nat) : Int) - 2 = ((ws.length : Nat) : Int) by omega]
      exact cut_to (by omega)
    rw [ecut]
    generalize hH1 : upd H p _ = H1
    obtain ⟨s1, e1⟩ := freshF hp hH1
    have lt2 : (xs.take ws.length).length = ws.length := by rw [List.length_take]; omega
    refine ⟨p, rfl, ⟨_, SqL.of e1⟩, fun D hD => ?_⟩
    refine lc_list (K := K) (a := p) (xs := xs.take ws.length) (te := tVar 10) (fun i H' => H' D = some (.lst ((ws.take i).map V.str)) ∧ Same H1 H') ⟨upd_same, same_new hD⟩ (fun i H' _ ⟨_, s2⟩ => s2.seq (SqL.of e1)) ?_ ?_
    · rintro i v H' hi ⟨h4, s2⟩
      have hil : i < ws.length := by rw [← lt2]; exact (List.getElem?_eq_some_iff.mp hi).1
      rw [List.getElem?_take_of_lt hil] at hi
      obtain ⟨t, ht, b, rfl, hb0⟩ := paired_at pr hi
      have hb2 := s2 _ _ (s1 _ _ hb0)
      have hs : (ws ++ [nlS, etS])[i]? = some t.s := by
        rw [← hws, List.getElem?_map, ht]
        rfl
      rw [List.getElem?_append_left hil] at hs
      refine ⟨b, _, rfl, SqT.of hb2, (by rfl), _, _, rfl, _, _, rfl, _, _, rfl, _, _, rfl, rfl, rfl, ?_⟩
      refine ⟨_, rfl, _, h4, ?_, ?_, ?_⟩
      · have := hok.cnt
        rw [List.length_map, List.length_take, sizeLine_eq]
        omega
      · rw [upd_same, List.take_succ, hs, List.map_append]
        rfl
      · intro b' o e
        rw [upd_ne (ne_of_none e hD)]
        exact s2 _ _ e
    rintro H2 ⟨eD, s2⟩
    rw [lt2, List.take_length] at eD
    have s12 := s1.trans s2
    have S2 := S.keep s12
    have fD := S.free (s1.free hD)
    have hc := hok.cnt
    have hpos : 1 ≤ ws.length := by
      rcases Nat.eq_zero_or_pos ws.length with e | e
      · exact absurd (List.length_eq_zero_iff.mp e) hne
      · exact e
    refine ⟨_, rfl, d, g, c, n, 5, rfl, S2, by omega, by decide, by decide, fun way H3 w0 w1 S3 kp3 => ?_⟩
    have eD3 := kp3 _ _ eD fD.1 fD.2.1
    refine ⟨_, rfl, _, rfl, D, _, rfl, .inl (SqL.of eD3), d, g, c, n + 1, _, rfl, S3, by omega, by rw [List.length_map]; omega, by rw [List.length_map]; omega, fun at_ H4 a0 a1 S4 kp4 => ⟨_, _, rfl, ?_⟩⟩
    rw [List.length_map] at a1
    have eD4 := kp4 _ _ eD3 fD.1 fD.2.1
    refine ⟨_, rfl, (by show 18 ≤ sizeLine; decide), fun q1 hq1 => ?_⟩
    generalize hH5 : upd H4 q1 _ = H5
    obtain ⟨sq1, eq1⟩ := freshF hq1 hH5
    have S5 := S4.keep sq1
    refine ⟨d, g, c, q1, _, _, rfl, S5, by omega, eq1, (S4.free hq1).2.1, by simp, (by show 18 ≤ 1000000; decide), fun v H6 hv S6 kp6 => ?_⟩
    obtain ⟨o, ho, rfl⟩ : ∃ o, o ∈ oth18 ∧ V.str o = v := List.mem_map.mp (show v ∈ oth18.map V.str from hv)
    obtain ⟨hoth, ho2⟩ := oth18_ok o ho
    have eD6 := kp6 _ _ (sq1 _ _ eD4) fD.1 fD.2.1
    obtain ⟨i, rfl⟩ := Int.eq_ofNat_of_zero_le a0
    have hi : i < ws.length := by omega
    have c1 : cutV (ws.map V.str) none (some ((i : Nat) : Int)) = (ws.take i).map V.str := by
      rw [cut_to (by rw [List.length_map]; omega), List.map_take]
    have c2 : cutV (ws.map V.str) (some (((i : Nat) : Int) + 1)) none = (ws.drop (i + 1)).map V.str := by
      rw [show ((i : Nat) : Int) + 1 = ((i + 1 : Nat) : Int) by omega]
      exact cut_from (by omega)
    have c3 : cutV (ws.map V.str) (some ((i : Nat) : Int)) none = (ws.drop i).map V.str := cut_from (by omega)
    have few : ∀ {A B : List V}, A.length ≤ 2000 → B.length ≤ 2000 → A.length + B.length ≤ sizeLine := fun h1 h2 => by rw [sizeLine_eq]; omega
    have lt_ : ∀ j, ((ws.take j).map V.str).length ≤ 1000 := fun j => by rw [List.length_map, List.length_take]; omega
    have ld_ : ∀ j, ((ws.drop j).map V.str).length ≤ 1000 := fun j => by rw [List.length_map, List.length_drop]; omega
    
    refine ⟨_, rfl, _, rfl, _, rfl, D, _, rfl, SqL.of eD6, fun a1 ha1 => ?_⟩
    rw [c1]
    generalize hH7 : upd H6 a1 _ = H7
    obtain ⟨sa1, ea1⟩ := freshF ha1 hH7
    have S7 := S6.keep sa1
    refine ⟨_, rfl, (by show 1 ≤ sizeLine; decide), fun a2 ha2 => ?_⟩
    generalize hH8 : upd H7 a2 _ = H8
    obtain ⟨sa2, ea2⟩ := freshF ha2 hH8
    have S8 := S7.keep sa2
    refine ⟨a1, a2, _, _, rfl, rfl, (sa2 _ _ ea1), ea2, few (Nat.le_trans (lt_ _) (by decide)) (by show 1 ≤ 2000; decide), fun a3 ha3 => ?_⟩
    generalize hH9 : upd H8 a3 _ = H9
    obtain ⟨sa3, ea3⟩ := freshF ha3 hH9
    have S9 := S8.keep sa3
    refine ⟨_, rfl, _, rfl, _, _, rfl, rfl, _, rfl, D, _, rfl, SqL.of (sa3 _ _ (sa2 _ _ (sa1 _ _ eD6))), fun a4 ha4 => ?_⟩
    rw [c2]
    generalize hH10 : upd H9 a4 _ = H10
    obtain ⟨sa4, ea4⟩ := freshF ha4 hH10
    have S10 := S9.keep sa4
    refine ⟨a3, a4, _, _, rfl, rfl, (sa4 _ _ ea3), ea4, few (by rw [List.length_append]; have := lt_ i; show _ + 1 ≤ 2000; omega) (Nat.le_trans (ld_ _) (by decide)), fun a5 ha5 => ?_⟩
    generalize hH11 : upd H10 a5 _ = H11
    obtain ⟨sa5, ea5⟩ := freshF ha5 hH11
    have S11 := S10.keep sa5
    refine ⟨_, rfl, _, rfl, _, rfl, D, _, rfl, SqL.of (sa5 _ _ (sa4 _ _ (sa3 _ _ (sa2 _ _ (sa1 _ _ eD6))))), fun b1 hb1 => ?_⟩
    rw [c1]
    generalize hH12 : upd H11 b1 _ = H12
    obtain ⟨sb1, eb1⟩ := freshF hb1 hH12
    have S12 := S11.keep sb1
    refine ⟨_, rfl, (by show 1 ≤ sizeLine; decide), fun b2 hb2 => ?_⟩
    generalize hH13 : upd H12 b2 _ = H13
    obtain ⟨sb2, eb2⟩ := freshF hb2 hH13
    have S13 := S12.keep sb2
    refine ⟨b1, b2, _, _, rfl, rfl, (sb2 _ _ eb1), eb2, few (Nat.le_trans (lt_ _) (by decide)) (by show 1 ≤ 2000; decide), fun b3 hb3 => ?_⟩
    generalize hH14 : upd H13 b3 _ = H14
    obtain ⟨sb3, eb3⟩ := freshF hb3 hH14
    have S14 := S13.keep sb3
    refine ⟨_, rfl, _, rfl, _, rfl, D, _, rfl, SqL.of (sb3 _ _ (sb2 _ _ (sb1 _ _ (sa5 _ _ (sa4 _ _ (sa3 _ _ (sa2 _ _ (sa1 _ _ eD6)))))))), fun b4 hb4 => ?_⟩
    rw [c3]
    generalize hH15 : upd H14 b4 _ = H15
    obtain ⟨sb4, eb4⟩ := freshF hb4 hH15
    have S15 := S14.keep sb4
    refine ⟨b3, b4, _, _, rfl, rfl, (sb4 _ _ eb3), eb4, few (by rw [List.length_append]; have := lt_ i; show _ + 1 ≤ 2000; omega) (Nat.le_trans (ld_ _) (by decide)), fun b5 hb5 => ?_⟩
    generalize hH16 : upd H15 b5 _ = H16
    obtain ⟨sb5, eb5⟩ := freshF hb5 hH16
    have S16 := S15.keep sb5
    refine ⟨_, rfl, _, rfl, _, rfl, D, _, rfl, SqL.of (sb5 _ _ (sb4 _ _ (sb3 _ _ (sb2 _ _ (sb1 _ _ (sa5 _ _ (sa4 _ _ (sa3 _ _ (sa2 _ _ (sa1 _ _ eD6)))))))))), fun c5 hc5 => ?_⟩
    rw [c1]
    generalize hH17 : upd H16 c5 _ = H17
    obtain ⟨sc5, ec5⟩ := freshF hc5 hH17
    have S17 := S16.keep sc5
    refine ⟨_, rfl, _, rfl, _, rfl, D, _, rfl, SqL.of (sc5 _ _ (sb5 _ _ (sb4 _ _ (sb3 _ _ (sb2 _ _ (sb1 _ _ (sa5 _ _ (sa4 _ _ (sa3 _ _ (sa2 _ _ (sa1 _ _ eD6))))))))))), fun d1 hd1 => ?_⟩
    rw [c1]
    generalize hH18 : upd H17 d1 _ = H18
    obtain ⟨sd1, ed1⟩ := freshF hd1 hH18
    have S18 := S17.keep sd1
    refine ⟨_, rfl, _, rfl, _, _, rfl, rfl, _, rfl, D, _, rfl, SqL.of (sd1 _ _ (sc5 _ _ (sb5 _ _ (sb4 _ _ (sb3 _ _ (sb2 _ _ (sb1 _ _ (sa5 _ _ (sa4 _ _ (sa3 _ _ (sa2 _ _ (sa1 _ _ eD6)))))))))))), fun d2 hd2 => ?_⟩
    rw [c2]
    generalize hH19 : upd H18 d2 _ = H19
    obtain ⟨sd2, ed2⟩ := freshF hd2 hH19
    have S19 := S18.keep sd2
    refine ⟨d1, d2, _, _, rfl, rfl, (sd2 _ _ ed1), ed2, few (Nat.le_trans (lt_ _) (by decide)) (Nat.le_trans (ld_ _) (by decide)), fun d5 hd5 => ?_⟩
    generalize hH20 : upd H19 d5 _ = H20
    obtain ⟨sd5, ed5⟩ := freshF hd5 hH20
    have S20 := S19.keep sd5
    refine ⟨(by show 4 ≤ sizeLine; decide), fun o1 ho1 => ?_⟩
    generalize hH21 : upd H20 o1 _ = H21
    obtain ⟨so1, eo1⟩ := freshF ho1 hH21
    have S21 := S20.keep so1
    refine ⟨_, rfl, _, rfl, _, rfl, (by show 1 ≤ sizeLine; decide), fun r1 hr1 => ?_⟩
    generalize hH22 : upd H21 r1 _ = H22
    obtain ⟨sr1, er1⟩ := freshF hr1 hH22
    have S22 := S21.keep sr1
    refine ⟨D, r1, _, _, rfl, rfl, (sr1 _ _ (so1 _ _ (sd5 _ _ (sd2 _ _ (sd1 _ _ (sc5 _ _ (sb5 _ _ (sb4 _ _ (sb3 _ _ (sb2 _ _ (sb1 _ _ (sa5 _ _ (sa4 _ _ (sa3 _ _ (sa2 _ _ (sa1 _ _ eD6)))))))))))))))), er1, few (by rw [List.length_map]; omega) (by show 1 ≤ 2000; decide), fun r2 hr2 => ?_⟩
    generalize hH23 : upd H22 r2 _ = H23
    obtain ⟨sr2, er2⟩ := freshF hr2 hH23
    have S23 := S22.keep sr2
    refine ⟨(by show 1 ≤ sizeLine; decide), fun r3 hr3 => ?_⟩
    generalize hH24 : upd H23 r3 _ = H24
    obtain ⟨sr3, er3⟩ := freshF hr3 hH24
    have S24 := S23.keep sr3
    refine ⟨o1, r3, _, _, rfl, rfl, (sr3 _ _ (sr2 _ _ (sr1 _ _ eo1))), er3, (by show 4 + 1 ≤ sizeLine; decide), fun r4 hr4 => ?_⟩
    generalize hH25 : upd H24 r4 _ = H25
    obtain ⟨sr4, er4⟩ := freshF hr4 hH25
    have S25 := S24.keep sr4
    obtain ⟨q, ys, hat, hys, hq, hqd, hqg⟩ : ∃ q ys, atI [V.ref a5, V.ref b5, V.ref c5, V.ref d5, V.ref r2] way = some (.ref q) ∧ ys ∈ bent5 ws o i ∧ H25 q = some (.lst (ys.map V.str)) ∧ q ≠ d ∧ q ≠ g := by
      have hw : way = 0 ∨ way = 1 ∨ way = 2 ∨ way = 3 ∨ way = 4 := by omega
      rcases hw with rfl | rfl | rfl | rfl | rfl
      · refine ⟨a5, ws.take i ++ [o] ++ ws.drop (i + 1), atI_nat (j := 0) rfl, by simp [bent5], ?_, (S10.free ha5).1, (S10.free ha5).2.1⟩
        try simp only [List.map_append, List.map_cons, List.map_nil]
        exact (sr4 _ _ (sr3 _ _ (sr2 _ _ (sr1 _ _ (so1 _ _ (sd5 _ _ (sd2 _ _ (sd1 _ _ (sc5 _ _ (sb5 _ _ (sb4 _ _ (sb3 _ _ (sb2 _ _ (sb1 _ _ ea5))))))))))))))
      · refine ⟨b5, ws.take i ++ [o] ++ ws.drop i, atI_nat (j := 1) rfl, by simp [bent5], ?_, (S15.free hb5).1, (S15.free hb5).2.1⟩
        try simp only [List.map_append, List.map_cons, List.map_nil]
        exact (sr4 _ _ (sr3 _ _ (sr2 _ _ (sr1 _ _ (so1 _ _ (sd5 _ _ (sd2 _ _ (sd1 _ _ (sc5 _ _ eb5)))))))))
      · refine ⟨c5, ws.take i, atI_nat (j := 2) rfl, by simp [bent5], ?_, (S16.free hc5).1, (S16.free hc5).2.1⟩
        try simp only [List.map_append, List.map_cons, List.map_nil]
        exact (sr4 _ _ (sr3 _ _ (sr2 _ _ (sr1 _ _ (so1 _ _ (sd5 _ _ (sd2 _ _ (sd1 _ _ ec5))))))))
      · refine ⟨d5, ws.take i ++ ws.drop (i + 1), atI_nat (j := 3) rfl, by simp [bent5], ?_, (S19.free hd5).1, (S19.free hd5).2.1⟩
        try simp only [List.map_append, List.map_cons, List.map_nil]
        exact (sr4 _ _ (sr3 _ _ (sr2 _ _ (sr1 _ _ (so1 _ _ ed5)))))
      · refine ⟨r2, ws ++ [o], atI_nat (j := 4) rfl, by simp [bent5], ?_, (S22.free hr2).1, (S22.free hr2).2.1⟩
        try simp only [List.map_append, List.map_cons, List.map_nil]
        exact (sr4 _ _ (sr3 _ _ er2))
    refine ⟨_, rfl, r4, _, _, _, rfl, rfl, SqL.of er4, hat, ?_⟩
    have hwo := bent5_ok hok hoth ho2 i ys hys
    have kpa : Kp d g H H25 := (Kp.of s12).trans (kp3.trans (kp4.trans ((Kp.of sq1).trans (kp6.trans (Kp.of ((((((((((((((((((sa1.trans sa2).trans sa3).trans sa4).trans sa5).trans sb1).trans sb2).trans sb3).trans sb4).trans sb5).trans sc5).trans sd1).trans sd2).trans sd5).trans so1).trans sr1).trans sr2).trans sr3).trans sr4))))))
    refine ⟨_, rfl, d, g, c, n + 3, 9, rfl, S25.mono (by omega), by omega, by decide, by decide, fun v He v0 v1 Se kpe => ?_⟩
    have hqe := kpe _ _ hq hqd hqg
    have hsum : (ys.map (·.length)).sum + ys.length ≤ 10000 := by
      have h1 := hwo.sum
      have h2 := hwo.cnt
      omega
    refine ⟨_, _, rfl, rfl, _, rfl, ?_⟩
    by_cases hv0 : 0 < v
    · refine ifT (decide_eq_true hv0) ?_
      refine ⟨⟨_, rfl⟩, _, rfl, (" " : Str), q, ys, rfl, rfl, .inl (SqL.of hqe), ?_, ?_⟩
      · have : (" " : Str).length = 1 := by decide +kernel
        rw [this]
        omega
      exact k _ He (txt_sp hwo) (Se.mono (by omega)) (kpa.trans kpe)
    · refine ifF (decide_eq_false hv0) ?_
      refine ⟨⟨_, rfl⟩, _, rfl, nlS, q, ys, rfl, rfl, .inl (SqL.of hqe), ?_, ?_⟩
      · have : nlS.length = 1 := by decide +kernel
        rw [this]
        omega
      exact k _ He (txt_nl hwo) (Se.mono (by omega)) (kpa.trans kpe)
end
end K3

set_option Elab.async false
set_option linter.all false
set_option pp.maxSteps 700
set_option maxRecDepth 100000
set_option maxHeartbeats 4000000
namespace K3
open PySem PySem.Spec PyProof.Rows L2
open TL (tl)
abbrev sNea : Stmt := top 71
theorem itx_pl : ∀ m : Fin 100, plA (iTx ((m.val : Nat) : Int)) = true ∧ (iTx ((m.val : Nat) : Int)).length ≤ 2 := by decide +kernel
structure PL (x : Str) (m : Nat) : Prop where
  pl : plA x = true
  len : x.length ≤ m
theorem PL.app {x y : Str} {m n : Nat} (h1 : PL x m) (h2 : PL y n) : PL (x ++ y) (m + n) := ⟨plA_app h1.pl h2.pl, by rw [app_len]; have := h1.len; have := h2.len; omega⟩
theorem PL.mono {x : Str} {m n : Nat} (h : PL x m) (hl : m ≤ n) : PL x n := ⟨h.pl, Nat.le_trans h.len hl⟩
theorem PL.line {x y : Str} {m : Nat} (h : PL (x ++ y) m) (hm : m ≤ 1000) : x.length + y.length ≤ sizeLine := by
  have := h.len
  rw [app_len] at this
  rw [sizeLine_eq]
  omega
theorem itx_PL {m : Nat} (h : m < 100) : PL (iTx ((m : Nat) : Int)) 2 := ⟨(itx_pl ⟨m, h⟩).1, (itx_pl ⟨m, h⟩).2⟩
theorem pl_lit {x : Str} {m : Nat} (h : (plA x && decide (x.length ≤ m)) = true) : PL x m := by
  rw [Bool.and_eq_true, decide_eq_true_iff] at h
  exact ⟨h.1, h.2⟩
def nmK (i : Nat) : Str := ("n" : Str) ++ iTx ((i : Nat) : Int)
theorem nm_PL {i : Nat} (h : i < 100) : PL (nmK i) 3 := (pl_lit (x := "n") (m := 1) (by decide +kernel)).app (itx_PL h)
theorem PL.nr {z : Str} (h : PL z 400) (hf : (tl z).head? = some 114) : NrP z := ⟨h.pl, h.len, hf⟩
def spNea : Sp := fun vs H Q _ => ∃ (d g c : Addr) (n : Nat), vs = [.ref d] ∧ StA H d g c n ∧ n ≤ 900000000 ∧ ∀ (z : Str) (H' : Hp), NrP z → StA H' d g c (n + 20) → Kp d g H H' → Q (.str z) H'
structure MgNe (K : PySem.W.Frag) (mg : Str → Option Value) (fP : Addr) : Prop where
  str : mg "str" = none
  rng : mg "range" = none
  pk : mg "_law_pick" = some (.ref fP)
  kpk : PySem.W.keepIn K (.ref fP) = true
section
variable {P : Program} {w : World} {K : PySem.W.Frag} {mg : Str → Option Value} {base : Heap}
theorem scNea : FnScope ["state", "one", "other", "found", "names", "some", "at", "name"] ["state"] (defScope sNea) := ⟨rfl, rfl, rfl, by decide +kernel, rfl, by decide +kernel, by decide +kernel⟩
theorem ok_nea {f fP : Addr} {fd fdP : FuncData} (F : Fun K "_law_near" "_law_near" sNea f fd) (T : MgNe K mg fP) (GP : FnOk P w K mg base CX0 3 fP fdP ["state", "some"] spPck) (bP : L2.Binds K fdP ["state", "some"] []) : FnOk P w K mg base CX0 4 f fd ["state"] spNea := by
  refine F.ok scNea (fun vs H Q E h => ?_) (fun cdv A outer s H vs Q E hr h => ?_)
  · obtain ⟨d, g, c, n, rfl, _⟩ := h
    rfl
  · obtain ⟨d, g, c, n, rfl, S, hn, k⟩ := h
    refine ⟨_, (pss_cons (ps_par (i := 1) (j := 2) (by rfl) scNea.nd rfl rfl (by decide) rfl rfl (pa_cons (pe_call GP hr (by rfl) T.pk T.kpk bP .nil pass0 (pa_cons (pv 0) (pa_cons (pe_lst (pa_cons pe_int (pa_cons pe_int (pa_cons pe_int (pa_cons pe_int pa_nil))))) pa_nil))) (pa_cons (pe_call GP hr (by rfl) T.pk T.kpk bP .nil pass0 (pa_cons (pv 0) (pa_cons (pe_lst (pa_cons pe_int (pa_cons pe_int (pa_cons pe_int (pa_cons pe_int (pa_cons pe_int (pa_cons pe_int pa_nil))))))) pa_nil))) pa_nil)) (by rfl))
      (pss_cons (ps_set (i := 3) scNea.nd rfl (Or.inl rfl) (pe_op op_add_str (pe_op op_add_str (pe_op op_add_str (pe_op op_add_str pe_str (pe_callTy call_str_int (by rfl) T.str (by decide +kernel) (pa_cons (pv 1) pa_nil))) pe_str) (pe_callTy call_str_int (by rfl) T.str (by decide +kernel) (pa_cons (pv 2) pa_nil))) pe_str))
      (pss_cons (ps_setLc (i := 4) (own := [("at", 6)]) (g := gName 6) (tt := tYes) (by rfl) scNea.nd rfl rfl (sw_true rfl rfl rfl (by decide +kernel)) (pi_range1 (by rfl) T.rng (pa_cons (pe_call GP hr (by rfl) T.pk T.kpk bP .nil pass0 (pa_cons (pv 0) (pa_cons (pe_lst (pa_cons pe_int (pa_cons pe_int (pa_cons pe_int pa_nil)))) pa_nil))) pa_nil)) (blkOk_by (own := [("at", 6)]) (N := ["state", "one", "other", "found", "names", "some", "at", "name"]) (sc := defScope sNea) (by decide +kernel)) (fun _ _ _ _ _ => (pg_name (i := 6) scNea.nd rfl (Or.inl rfl))) (fun _ _ _ _ _ => pts_nil) (fun _ _ _ _ _ => (pe_op op_add_str pe_str (pe_callTy call_str_int (by rfl) T.str (by decide +kernel) (pa_cons (pv 6) pa_nil)))))
      (pss_cons (ps_set (i := 5) scNea.nd rfl (Or.inl rfl) (pe_lst (pa_cons (pv 3) (pa_cons (pe_op op_add_str (pe_op op_add_str (pe_op op_add_str (pe_op op_add_str pe_str (pv 3)) pe_str) (pe_callTy call_str_int (by rfl) T.str (by decide +kernel) (pa_cons (pe_call GP hr (by rfl) T.pk T.kpk bP .nil pass0 (pa_cons (pv 0) (pa_cons (pe_lst (pa_cons pe_int (pa_cons pe_int (pa_cons pe_int pa_nil)))) pa_nil))) pa_nil))) pe_str) pa_nil))))
      (pss_cons (ps_expr (qApp (pv 5) (pe_op op_add_str (pe_op op_add_str pe_str (pe_join pe_str (pe_lc (own := [("name", 7)]) (g := gName 7) (tt := tYes) (by rfl) scNea.nd (pi_list (pv 4)) (blkOk_by (own := [("name", 7)]) (N := ["state", "one", "other", "found", "names", "some", "at", "name"]) (sc := defScope sNea) (by decide +kernel)) (fun _ _ _ _ _ => (pg_name (i := 7) scNea.nd rfl (Or.inl rfl))) (fun _ _ _ _ _ => pts_nil) (fun _ _ _ _ _ => (pe_op op_add_str (pe_op op_add_str (pe_op op_add_str (pv 7) pe_str) (pe_callTy call_str_int (by rfl) T.str (by decide +kernel) (pa_cons (pe_call GP hr (by rfl) T.pk T.kpk bP .nil pass0 (pa_cons (pv 0) (pa_cons (pe_lst (pa_cons pe_int (pa_cons pe_int (pa_cons pe_int pa_nil)))) pa_nil))) pa_nil))) pe_str))))) pe_str)))
      (pss_cons (ps_expr (qApp (pv 5) (pe_op op_add_str pe_str (pe_call GP hr (by rfl) T.pk T.kpk bP .nil pass0 (pa_cons (pv 0) (pa_cons (pe_lst (pa_cons pe_str (pa_cons pe_str (pa_cons pe_str pa_nil)))) pa_nil))))))
      (pss_one (ps_ret (pe_call GP hr (by rfl) T.pk T.kpk bP .nil pass0 (pa_cons (pv 0) (pa_cons (pv 5) pa_nil))))))))))), ?_⟩
    refine ⟨_, rfl, (by show 4 ≤ sizeLine; decide), fun q1 hq1 => ?_⟩
    generalize hH1 : upd H q1 _ = H1
    obtain ⟨sq1, eq1⟩ := freshF hq1 hH1
    have S1 := S.keep sq1
    refine ⟨d, g, c, q1, _, _, rfl, S1, by omega, eq1, (S.free hq1).2.1, by simp, (by show 4 ≤ 1000000; decide), fun v1 H2 hv1 S2 kp2 => ?_⟩
    obtain ⟨one, rfl, h1⟩ : ∃ m : Nat, v1 = .int (m : Nat) ∧ m < 100 := by
      simp only [List.mem_cons, List.not_mem_nil, or_false] at hv1
      rcases hv1 with rfl | rfl | rfl | rfl
      · exact ⟨20, rfl, by decide⟩
      · exact ⟨64, rfl, by decide⟩
      · exact ⟨40, rfl, by decide⟩
      · exact ⟨7, rfl, by decide⟩
    refine ⟨_, rfl, (by show 6 ≤ sizeLine; decide), fun q2 hq2 => ?_⟩
    generalize hH3 : upd H2 q2 _ = H3
    obtain ⟨sq2, eq2⟩ := freshF hq2 hH3
    have S3 := S2.keep sq2
    refine ⟨d, g, c, q2, _, _, rfl, S3, by omega, eq2, (S2.free hq2).2.1, by simp, (by show 6 ≤ 1000000; decide), fun v2 H4 hv2 S4 kp4 => ?_⟩
    obtain ⟨oth, rfl, h2⟩ : ∃ m : Nat, v2 = .int (m : Nat) ∧ m < 100 := by
      simp only [List.mem_cons, List.not_mem_nil, or_false] at hv2
      rcases hv2 with rfl | rfl | rfl | rfl | rfl | rfl
      · exact ⟨20, rfl, by decide⟩
      · exact ⟨6, rfl, by decide⟩
      · exact ⟨10, rfl, by decide⟩
      · exact ⟨64, rfl, by decide⟩
      · exact ⟨57, rfl, by decide⟩
      · exact ⟨21, rfl, by decide⟩
    have kp04 : Kp d g H H4 := (Kp.of sq1).trans (kp2.trans ((Kp.of sq2).trans kp4))
    refine ⟨_, _, rfl, ?_⟩
    have Lo1 := itx_PL h1
    have Lo2 := itx_PL h2
    have F1 := pl_lit (x := "row ") (m := 4) (by decide +kernel)
    have F2 := F1.app Lo1
    have F3 := F2.app (pl_lit (x := " row ") (m := 5) (by decide +kernel))
    have F4 := F3.app Lo2
    have F5 := F4.app (pl_lit (x := " number") (m := 7) (by decide +kernel))
    refine ⟨_, rfl, _, rfl, log_small (by omega), _, _, rfl, rfl, F2.line (by decide), _, _, rfl, rfl, F3.line (by decide), _, rfl, _, rfl, log_small (by omega), _, _, rfl, rfl, F4.line (by decide), _, _, rfl, rfl, F5.line (by decide), ?_⟩
    have hd5 : (tl (("row " : Str) ++ Str.ofString (toString ((one : Nat) : Int)) ++ (" row " : Str) ++ Str.ofString (toString ((oth : Nat) : Int)) ++ (" number" : Str))).head? = some 114 := head_app (head_app (head_app (head_app (by decide +kernel))))
    have F5 : PL (("row " : Str) ++ Str.ofString (toString ((one : Nat) : Int)) ++ (" row " : Str) ++ Str.ofString (toString ((oth : Nat) : Int)) ++ (" number" : Str)) 20 := F5.mono (by decide)
    generalize hfou : (("row " : Str) ++ Str.ofString (toString ((one : Nat) : Int)) ++ (" row " : Str) ++ Str.ofString (toString ((oth : Nat) : Int)) ++ (" number" : Str)) = fou at *
    -- names
    refine ⟨_, rfl, (by show 3 ≤ sizeLine; decide), fun q3 hq3 => ?_⟩
    generalize hH5 : upd H4 q3 _ = H5
    obtain ⟨sq3, eq3⟩ := freshF hq3 hH5
    have S5 := S4.keep sq3
    refine ⟨d, g, c, q3, _, _, rfl, S5, by omega, eq3, (S4.free hq3).2.1, by simp, (by show 3 ≤ 1000000; decide), fun v3 H6 hv3 S6 kp6 => ?_⟩
    obtain ⟨nn, rfl, h3⟩ : ∃ m : Nat, v3 = .int (m : Nat) ∧ m ≤ 7 := by
      simp only [List.mem_cons, List.not_mem_nil, or_false] at hv3
      rcases hv3 with rfl | rfl | rfl
      · exact ⟨6, rfl, by decide⟩
      · exact ⟨7, rfl, by decide⟩
      · exact ⟨2, rfl, by decide⟩
    have kp06 : Kp d g H H6 := kp04.trans ((Kp.of sq3).trans kp6)
    refine ⟨_, rfl, by omega, by omega, fun D hD => lc_range (lo := 0) (n := ((nn : Nat) : Int).toNat)
      (fun i H' => H' D = some (.lst (((List.range i).map nmK).map V.str)) ∧ Same H6 H') ⟨upd_same, same_new hD⟩ ?_ ?_⟩
    · rintro i H' hi ⟨h4, s1⟩
      have hi7 : i < 7 := by omega
      refine ⟨rfl, ?_⟩
      rw [show (0 : Int) + (i : Nat) = (i : Nat) from Int.zero_add _]
      refine ⟨_, rfl, _, rfl, log_small (by omega), _, _, rfl, rfl, (nm_PL (i := i) (by omega)).line (by decide), _, h4, ?_, ?_, ?_⟩
      · rw [List.length_map, List.length_map, List.length_range, sizeLine_eq]
        omega
      · rw [upd_same, List.range_succ, List.map_append, List.map_append]
        rfl
      · intro b o e
        rw [upd_ne (ne_of_none e hD)]
        exact s1 _ _ e
    rintro H7 ⟨eD, s7⟩
    rw [Int.toNat_natCast] at eD
    have S7 := S6.keep s7
    have fD := S6.free hD
    have kp07 : Kp d g H H7 := kp06.trans (Kp.of s7)
    -- some
    have F6 := (pl_lit (x := "record(a ") (m := 9) (by decide +kernel)).app F5
    have F7 := F6.app (pl_lit (x := ", b row ") (m := 8) (by decide +kernel))
    refine ⟨_, rfl, _, rfl, _, _, rfl, rfl, F6.line (by decide), _, _, rfl, rfl, F7.line (by decide), ?_⟩
    refine ⟨_, rfl, (by show 3 ≤ sizeLine; decide), fun q4 hq4 => ?_⟩
    generalize hH8 : upd H7 q4 _ = H8
    obtain ⟨sq4, eq4⟩ := freshF hq4 hH8
    have S8 := S7.keep sq4
    refine ⟨d, g, c, q4, _, _, rfl, S8, by omega, eq4, (S7.free hq4).2.1, by simp, (by show 3 ≤ 1000000; decide), fun v4 H9 hv4 S9 kp9 => ?_⟩
    obtain ⟨m4, rfl, h4⟩ : ∃ m : Nat, v4 = .int (m : Nat) ∧ m < 100 := by
      simp only [List.mem_cons, List.not_mem_nil, or_false] at hv4
      rcases hv4 with rfl | rfl | rfl
      · exact ⟨16, rfl, by decide⟩
      · exact ⟨1, rfl, by decide⟩
      · exact ⟨17, rfl, by decide⟩
    have F8 := F7.app (itx_PL h4)
    have F9 := F8.app (pl_lit (x := " truth, c number)") (m := 17) (by decide +kernel))
    refine ⟨_, rfl, log_small (by omega), _, _, rfl, rfl, F8.line (by decide), _, _, rfl, rfl, F9.line (by decide), (by show 2 ≤ sizeLine; decide), fun q5 hq5 => ?_⟩
    generalize hHa : upd H9 q5 _ = Ha
    obtain ⟨sq5, eq5⟩ := freshF hq5 hHa
    have Sa := S9.keep sq5
    have hd9 : (tl (("record(a " : Str) ++ fou ++ (", b row " : Str) ++ iTx ((m4 : Nat) : Int) ++ (" truth, c number)" : Str))).head? = some 114 := head_app (head_app (head_app (head_app (by decide +kernel))))
    have N1 := (F5.mono (by decide)).nr hd5
    have N2 := (F9.mono (by decide)).nr hd9
    have kp0a : Kp d g H Ha := kp07.trans ((Kp.of sq4).trans (kp9.trans (Kp.of sq5)))
    have h50 : H q5 = none := Kp.free S9 (kp07.trans ((Kp.of sq4).trans kp9)) hq5
    have f5 := S9.free hq5
    have eDa : Ha D = some (.lst (((List.range nn).map nmK).map V.str)) := sq5 _ _ (kp9 _ _ (sq4 _ _ eD) fD.1 fD.2.1)
    -- some.append(record of rows)
    refine ⟨_, rfl, .inl ⟨rfl, _, SqL.of eq5⟩, ?_⟩
    refine ⟨⟨_, rfl⟩, _, rfl, D, rfl, ⟨_, SqL.of eDa⟩, fun D2 hD2 => ?_⟩
    have fD2 := Sa.free hD2
    refine lc_list (K := K) (a := D) (xs := ((List.range nn).map nmK).map V.str) (fun i H' => ∃ ys : List Str, H' D2 = some (.lst (ys.map V.str)) ∧ ys.length = i ∧ (∀ y ∈ ys, PL y 16) ∧ StA H' d g c (n + 4 + i) ∧ Kp d g Ha H')
      ⟨[], upd_same, rfl, fun y hy => (by cases hy), (Sa.keep (same_new hD2)).mono (by omega), Kp.of (same_new hD2)⟩ (fun i H' _ ⟨_, _, _, _, _, kp⟩ => SqL.of (kp _ _ eDa fD.1 fD.2.1)) ?_ ?_
    · rintro i v H' hi ⟨ys, g1, g2, g3, g4, g5⟩
      rw [List.getElem?_map, List.getElem?_map] at hi
      obtain ⟨x, hx, rfl⟩ := Option.map_eq_some_iff.mp hi
      obtain ⟨j, hj, rfl⟩ := Option.map_eq_some_iff.mp hx
      have hjr := List.mem_range.mp (List.mem_of_getElem? hj)
      have hin : i < nn := by
        have := (List.getElem?_eq_some_iff.mp hj).1
        rw [List.length_range] at this
        exact this
      have G1 := nm_PL (i := j) (by omega)
      have G2 := G1.app (pl_lit (x := " row ") (m := 5) (by decide +kernel))
      refine ⟨rfl, ?_⟩
      refine ⟨_, rfl, _, _, rfl, rfl, G2.line (by decide), ?_⟩
      refine ⟨_, rfl, (by show 3 ≤ sizeLine; decide), fun q6 hq6 => ?_⟩
      generalize hHx : upd H' q6 _ = Hx
      obtain ⟨sq6, eq6⟩ := freshF hq6 hHx
      have f6 := g4.free hq6
      refine ⟨d, g, c, q6, _, _, rfl, g4.keep sq6, by omega, eq6, f6.2.1, by simp, (by show 3 ≤ 1000000; decide), fun v5 Hy hv5 Sy kpy => ?_⟩
      obtain ⟨m5, rfl, h5⟩ : ∃ m : Nat, v5 = .int (m : Nat) ∧ m < 100 := by
        simp only [List.mem_cons, List.not_mem_nil, or_false] at hv5
        rcases hv5 with rfl | rfl | rfl
        · exact ⟨1, rfl, by decide⟩
        · exact ⟨64, rfl, by decide⟩
        · exact ⟨67, rfl, by decide⟩
      have G3 := G2.app (itx_PL h5)
      have G4 := G3.app (pl_lit (x := " truth") (m := 6) (by decide +kernel))
      have gD2 := kpy _ _ (sq6 _ _ g1) fD2.1 fD2.2.1
      refine ⟨_, rfl, log_small (by omega), _, _, rfl, rfl, G3.line (by decide), _, _, rfl, rfl, G4.line (by decide), _, gD2, (by rw [List.length_map, sizeLine_eq]; omega), ys ++ [nmK j ++ (" row " : Str) ++ iTx ((m5 : Nat) : Int) ++ (" truth" : Str)], ?_, ?_, ?_, ?_, ?_⟩
      · rw [upd_same, List.map_append]
        rfl
      · rw [List.length_append, g2]
        rfl
      · intro y hy
        rcases List.mem_append.mp hy with hy | hy
        · exact g3 y hy
        · rw [List.mem_singleton.mp hy]
          exact G4
      · exact (Sy.upF fD2.1 fD2.2.1 fD2.2.2).mono (by omega)
      · exact (g5.trans ((Kp.of sq6).trans kpy)).upF hD2
    rintro Hb ⟨ys, g1, g2, g3, Sb, kpb⟩
    rw [List.length_map, List.length_map, List.length_range] at g2 Sb
    have hys : (ys.map (·.length)).sum ≤ 7 * 16 := by
      have h1 := sum_lens (B := 16) fun x hx => (g3 x hx).len
      have h2 : ys.length * 16 ≤ 7 * 16 := Nat.mul_le_mul_right _ (by omega)
      omega
    have e2 : (", " : Str).length = 2 := by decide +kernel
    have J : PL (Txt.join (", " : Str) ys) 126 := by
      refine ⟨plA_join (by decide +kernel) ys fun x hx => (g3 x hx).pl, ?_⟩
      have := join_len (", " : Str) ys
      rw [e2] at this
      omega
    have J1 := (pl_lit (x := "record(") (m := 7) (by decide +kernel)).app J
    have J2 := J1.app (pl_lit (x := ")") (m := 1) (by decide +kernel))
    have e5b := kpb _ _ eq5 f5.1 f5.2.1
    refine ⟨(", " : Str), D2, ys, rfl, rfl, .inl (SqL.of g1), (by rw [e2]; omega), _, _, rfl, rfl, J1.line (by decide), _, _, rfl, rfl, J2.line (by decide), q5, _, _, rfl, rfl, e5b, (by show 2 < sizeLine; decide), ?_⟩
    have N3 := (J2.mono (by decide)).nr (head_app (head_app (by decide +kernel)))
    generalize hHc : upd Hb q5 _ = Hc
    have Sc : StA Hc d g c (n + 4 + nn) := by rw [← hHc]; exact Sb.upF f5.1 f5.2.1 f5.2.2
    have kpc : Kp d g H Hc := by rw [← hHc]; exact (kp0a.trans kpb).upF h50
    have e5c : Hc q5 = some (.lst [V.str fou, V.str (("record(a " : Str) ++ fou ++ (", b row " : Str) ++ iTx ((m4 : Nat) : Int) ++ (" truth, c number)" : Str)), V.str (("record(" : Str) ++ Txt.join (", " : Str) ys ++ (")" : Str))]) := by rw [← hHc, upd_same]; rfl
    -- some.append(rows in rows)
    refine ⟨_, rfl, .inl ⟨rfl, _, SqL.of e5c⟩, ?_⟩
    refine ⟨_, rfl, (by show 3 ≤ sizeLine; decide), fun q7 hq7 => ?_⟩
    generalize hHd : upd Hc q7 _ = Hd
    obtain ⟨sq7, eq7⟩ := freshF hq7 hHd
    have Sd := Sc.keep sq7
    refine ⟨d, g, c, q7, _, _, rfl, Sd, by omega, eq7, (Sc.free hq7).2.1, by simp, (by show 3 ≤ 1000000; decide), fun v6 He hv6 Se kpe => ?_⟩
    obtain ⟨x6, rfl, h6⟩ : ∃ x : Str, v6 = .str x ∧ PL x 20 := by
      simp only [List.mem_cons, List.not_mem_nil, or_false] at hv6
      rcases hv6 with rfl | rfl | rfl
      · exact ⟨_, rfl, pl_lit (by decide +kernel)⟩
      · exact ⟨_, rfl, pl_lit (by decide +kernel)⟩
      · exact ⟨_, rfl, pl_lit (by decide +kernel)⟩
    have M1 := (pl_lit (x := "row 1 row 1 row 1 ") (m := 18) (by decide +kernel)).app h6
    have N4 := (M1.mono (by decide)).nr (head_app (by decide +kernel))
    have e5e := kpe _ _ (sq7 _ _ e5c) f5.1 f5.2.1
    refine ⟨_, _, rfl, rfl, M1.line (by decide), q5, _, _, rfl, rfl, e5e, (by show 3 < sizeLine; decide), ?_⟩
    generalize hHf : upd He q5 _ = Hf
    have Sf : StA Hf d g c (n + 4 + nn + 1) := by rw [← hHf]; exact Se.upF f5.1 f5.2.1 f5.2.2
    have kpf : Kp d g H Hf := by rw [← hHf]; exact (kpc.trans ((Kp.of sq7).trans kpe)).upF h50
    have e5f : Hf q5 = some (.lst [V.str fou, V.str (("record(a " : Str) ++ fou ++ (", b row " : Str) ++ iTx ((m4 : Nat) : Int) ++ (" truth, c number)" : Str)), V.str (("record(" : Str) ++ Txt.join (", " : Str) ys ++ (")" : Str)), V.str (("row 1 row 1 row 1 " : Str) ++ x6)]) := by rw [← hHf, upd_same]; rfl
    refine ⟨_, rfl, _, rfl, d, g, c, q5, _, _, rfl, Sf, by omega, e5f, f5.2.1, by simp, (by show 4 ≤ 1000000; decide), fun v7 Hg hv7 Sg kpg => ?_⟩
    have kz := fun z hz => k z Hg hz (Sg.mono (by omega)) (kpf.trans kpg)
    simp only [List.mem_cons, List.not_mem_nil, or_false] at hv7
    rcases hv7 with rfl | rfl | rfl | rfl
    · exact kz _ N1
    · exact kz _ N2
    · exact kz _ N3
    · exact kz _ N4
end
end K3

set_option Elab.async false
set_option linter.all false
set_option pp.maxSteps 700
set_option maxRecDepth 100000
set_option maxHeartbeats 8000000
namespace K3
open PySem PySem.Spec PyProof.Rows L2
open LamX (GivesTo CodeO Tabs TabS TabB tLam pe_lamcall lamCx lamEnv lamS_by ExtN)
open TL (tl)
abbrev sRR : Stmt := top 72
abbrev qR : Str := ("_law_read_right" : Str) ++ ".<locals>." ++ "<lambda>"
abbrev qL : Str := ("law" : Str) ++ ".<locals>." ++ "<lambda>"
abbrev tbs (PTR PTL : Addr) : List (Addr × Str) := [(PTR, qR), (PTL, qL)]
theorem tbs_r {PTR PTL : Addr} (hne : PTR ≠ PTL) : ∀ p ∈ tbs PTR PTL, p.1 = PTR → p.2 = qR := fun p hp e => by
  rcases List.mem_cons.mp hp with rfl | hp
  · rfl
  · rw [List.mem_singleton.mp hp] at e
    exact absurd e.symm hne
theorem tbs_l {PTR PTL : Addr} (hne : PTR ≠ PTL) : ∀ p ∈ tbs PTR PTL, p.1 = PTL → p.2 = qL := fun p hp e => by
  rcases List.mem_cons.mp hp with rfl | hp
  · exact absurd e hne
  · rw [List.mem_singleton.mp hp]
/-! ### a kept error without a dict -/
def rIsH0 (K : PySem.W.Frag) (D : Addr) : List V → Hp → VK → Prop := fun xs H Q => ∃ (a : Addr) (c : V) (cv : Value) (b : Bool), xs = [.ref a, c] ∧ (∀ u, RelV c u → u = cv) ∧ H a = some (exh a (.ref D) none) ∧
  PySem.W.kitOne K (.ref D) cv = some b ∧ Q (.bl b) H
theorem call_isH0 {X : Cx} {D : Addr} (C : ExcC X.K D) : CallR X (.builtin "isinstance") (rIsH0 X.K D) := by
  intro pins s σ H xs us Q I r h
  obtain ⟨a, c, cv, b, rfl, hcv, h1, e, q⟩ := h
  obtain ⟨u1, u2, rfl, r1, r2⟩ := vals2 r
  cases r1
  have ec := hcv _ r2
  subst ec
  obtain ⟨oe, vs, ha, hz, hd⟩ := exh_at I.hok h1
  have J : PySem.W.InstAt s.heap a oe D none := ⟨ha, hz.1, by unfold PySem.W.notCls; rw [hd] <;> rfl, by rw [hz.2]; trivial⟩
  have hcl : (PySem.W.clsIn X.K D).isSome = true := by
    obtain ⟨cd, hc, _⟩ := PySem.W.any_some C.hd
    rw [hc]
    rfl
  exact PySem.W.kia_one (PySem.W.kitx_exc hcl C.hg C.hk C.hs C.ha C.hn C.ht C.hm) I.kIn J e (fun z => nomatch z) fun tk => ⟨.bl b, H, I.kept (t' := tk) fun _ _ z => z, rfl, q⟩
theorem kit_self {K : PySem.W.Frag} {S : Addr} : PySem.W.kitOne K (.ref S) (.ref S) = some true := by
  unfold PySem.W.kitOne
  rw [if_pos (beq_self_eq_true _)]
theorem Kv.extN {g : Addr} {H H' : Hp} (k : ExtN H H') : Kv g H H' := ⟨fun b xs e _ => k _ _ e (fun _ z => by cases z), fun b xs e => k _ _ e (fun _ z => by cases z), fun b e => k _ _ e (fun _ z => by cases z)⟩
theorem StA.extN {H H' : Hp} {d g c : Addr} {n : Nat} (S : StA H d g c n) (k : ExtN H H') : StA H' d g c n := by
  obtain ⟨r, tt, gs, cs, S⟩ := S
  exact ⟨r, tt, gs, cs, { S with dk := k _ _ S.dk (fun _ z => by cases z), gl := k _ _ S.gl (fun _ z => by cases z), cl := k _ _ S.cl (fun _ z => by cases z) }⟩
theorem tabs_but {T : List (Addr × Str)} {H H' : Hp} (t : Tabs T H) (k : ∀ b o, H b = some o → (∀ kv, o ≠ .dK kv) → (∀ xs, o ≠ .lst xs) → H' b = some o) : Tabs T H' := fun p hp => by
  obtain ⟨ps, h1, h2, h3⟩ := t p hp
  refine ⟨ps, k _ _ h1 (fun _ z => by cases z) (fun _ z => by cases z), h2, fun pos cv hc => ?_⟩
  obtain ⟨c', e1, e2⟩ := h3 pos cv hc
  exact ⟨c', e1, k _ _ e2 (fun kv z => by unfold CodeO at z; cases z) (fun xs z => by unfold CodeO at z; cases z)⟩
theorem tabs_kp {T : List (Addr × Str)} {H H' : Hp} {d g c : Addr} {n : Nat} (t : Tabs T H) (S : StA H d g c n) (k : Kp d g H H') : Tabs T H' := by
  obtain ⟨r, tt, gs, cs, S⟩ := S
  refine tabs_but t fun b o e n1 n2 => k b o e (fun z => ?_) (fun z => ?_)
  · rw [z] at e
    exact n1 _ (Option.some.inj (e.symm.trans S.dk))
  · rw [z] at e
    exact n2 _ (Option.some.inj (e.symm.trans S.gl))
/-- all stays but the state's own and the tables -/
def KpE (d g : Addr) (H H' : Hp) : Prop := ∀ b o, H b = some o → b ≠ d → b ≠ g → (∀ ps, o ≠ .tbl ps) → H' b = some o
theorem KpE.kp {d g : Addr} {H H' : Hp} (k : Kp d g H H') : KpE d g H H' := fun b o e h1 h2 _ => k b o e h1 h2
theorem KpE.ext {d g : Addr} {H H' : Hp} (k : ExtN H H') : KpE d g H H' := fun b o e _ _ n => k b o e n
theorem KpE.of {d g : Addr} {H H' : Hp} (k : Same H H') : KpE d g H H' := fun b o e _ _ _ => k b o e
theorem KpE.trans {d g : Addr} {H H1 H2 : Hp} (a : KpE d g H H1) (b : KpE d g H1 H2) : KpE d g H H2 := fun c o e h1 h2 n => b c o (a c o e h1 h2 n) h1 h2 n
theorem ExtN.of {H H' : Hp} (s : Same H H') : ExtN H H' := fun b o e _ => s b o e
theorem ExtN.trans {H H1 H2 : Hp} (a : ExtN H H1) (b : ExtN H1 H2) : ExtN H H2 := fun c o e n => b c o (a c o e n) n
/-! ### the law's first wrong token is where the program's reader stops -/
theorem fw_ko {z : Str} : (∀ e, koE (allToks z) = .bad e → fwT (allToks z) = some e) ∧ (∀ d j, koE (allToks z) = .ok d j → fwT (allToks z) = none) := by
  have E := all_ends z
  obtain ⟨t, ht⟩ : ∃ t, (allToks z)[0]? = some t := ⟨_, List.getElem?_eq_getElem (all_pos z)⟩
  have hf : fwT (allToks z) = if t.i = some 0 then fwL (wsD (allToks z) 0) 0 ([], .kind) else some 0 := by
    unfold fwT
    cases hz : allToks z with
    | nil => rw [hz] at ht; cases ht
    | cons u r =>
      rw [hz] at ht
      obtain rfl : u = t := Option.some.inj ht
      rfl
  by_cases hi : t.i = some 0
  · rw [if_pos hi] at hf
    obtain ⟨f1, f2⟩ := first_wrong E ht hi
    refine ⟨fun e h => hf.trans (f1 e h), fun d j h => ?_⟩
    obtain ⟨h1, h2, h3, h4⟩ := f2 d j h
    have := all_et h1 h3
    rw [hf, h4, wsD_end (by omega)]
    rfl
  · rw [if_neg hi] at hf
    have e0 := koE_0 ht hi
    refine ⟨fun e h => ?_, fun d j h => ?_⟩
    · rw [e0] at h
      injection h with h
      rw [hf, ← h]
    · rw [e0] at h
      cases h
theorem fw_lt {ts : List Tok} {e : Nat} (h : fwT ts = some e) : e < ts.length := by
  have g : ∀ (ws : List Str) (i : Nat) (st : List Fr × Wt), fwL ws i st = some e → e < i + ws.length := by
    intro ws
    induction ws with
    | nil => intro i st h; cases h
    | cons x r ih =>
      intro i st h
      unfold fwL at h
      cases hs : stepS st x with
      | none =>
        rw [hs] at h
        obtain rfl := Option.some.inj h
        rw [List.length_cons]
        omega
      | some st' =>
        rw [hs] at h
        have := ih (i + 1) st' h
        rw [List.length_cons]
        omega
  cases ts with
  | nil => cases h
  | cons t r =>
    have h : (if t.i = some 0 then fwL (wsD (t :: r) 0) 0 ([], .kind) else some 0) = some e := h
    by_cases c : t.i = some 0
    · rw [if_pos c] at h
      have := g _ _ _ h
      unfold wsD at this
      rw [List.drop_zero, List.length_map, Nat.zero_add] at this
      exact this
    · rw [if_neg c] at h
      obtain rfl := Option.some.inj h
      rw [List.length_cons]
      omega
def spRR (PTR PTL : Addr) : Sp := fun vs H Q _ => ∃ z : Str, vs = [.str z] ∧ TxtOk z ∧ Tabs (tbs PTR PTL) H ∧ ∀ H', ExtN H H' → Tabs (tbs PTR PTL) H' → Q (.bl true) H'
structure MgRR (K : PySem.W.Frag) (mg : Str → Option Value) (CE E fGT fFW fBad fCgt fKO fKd fCbw fSm fLx : Addr) : Prop where
  gt : mg "_law_tx_tokens" = some (.ref fGT)
  kgt : PySem.W.keepIn K (.ref fGT) = true
  fw : mg "_law_first_wrong" = some (.ref fFW)
  kfw : PySem.W.keepIn K (.ref fFW) = true
  bad : mg "_law_tx_bad" = some (.ref fBad)
  kbad : PySem.W.keepIn K (.ref fBad) = true
  cgt : mg "_law_caught" = some (.ref fCgt)
  kcgt : PySem.W.keepIn K (.ref fCgt) = true
  ko : mg "kind_of" = some (.ref fKO)
  kko : PySem.W.keepIn K (.ref fKO) = true
  kd : mg "is_kind" = some (.ref fKd)
  kkd : PySem.W.keepIn K (.ref fKd) = true
  cbw : mg "_law_cb_words" = some (.ref fCbw)
  kcbw : PySem.W.keepIn K (.ref fCbw) = true
  sm : mg "_law_tx_same" = some (.ref fSm)
  ksm : PySem.W.keepIn K (.ref fSm) = true
  lx : mg "_law_tx_kind" = some (.ref fLx)
  klx : PySem.W.keepIn K (.ref fLx) = true
  ce : mg "ClockError" = some (.ref CE)
  exm : PySem.W.exmOne K (.ref E) (.ref CE) = some true
section
variable {P : Program} {w : World} {K : PySem.W.Frag} {mg : Str → Option Value} {base : Heap}
theorem scRR : FnScope ["text", "tokens", "wrong", "kind"] ["text"] (defScope sRR) := ⟨rfl, rfl, rfl, by decide +kernel, rfl, by decide +kernel, by decide +kernel⟩
theorem ok_rr {f cR PTR PTL CE E0' fGT fFW fBad fCgt fKO fKd fCbw fSm fLx : Addr} {fdGT fdFW fdBad fdKO fdKd fdCbw fdSm fdLx : FuncData} {oc kV doc pm ct : Value} {od an : Option Addr} {sl : Array (Option Value)}
    {ocg kVg docg pmg cdg ctg : Value} {odg ang : Option Addr} {slg : Array (Option Value)}
    (lk : K.lookup f = some ⟨oc, od, .func (PySem.W.fnOf "_law_read_right" "_law_read_right" (defArgs sRR) (defBody sRR) (defScope sRR) .none kV doc pm an (.ref cR) ct), sl⟩) (hcd : PySem.W.codeIn K (.ref cR) "_law_read_right" = true)
    (lkg : K.lookup fCgt = some ⟨ocg, odg, .func (PySem.W.fnOf "_law_caught" "_law_caught" (defArgs sCgt) (defBody sCgt) (defScope sCgt) .none kVg docg pmg ang cdg ctg), slg⟩) (hcg : PySem.W.codeIn K cdg "_law_caught" = true)
    (bCgt : L2.Binds K (PySem.W.fnOf "_law_caught" "_law_caught" (defArgs sCgt) (defBody sCgt) (defScope sCgt) .none kVg docg pmg ang cdg ctg) ["action"] [])
    (T : MgRR K mg CE E0' fGT fFW fBad fCgt fKO fKd fCbw fSm fLx) (TB : TabB base mg cR PTR) (hne : PTR ≠ PTL)
    (GGT : FnOk P w K mg base CX0 1 fGT fdGT ["text"] spGT) (bGT : L2.Binds K fdGT ["text"] [])
    (GFW : FnOk P w K mg base CX0 3 fFW fdFW ["tokens"] spFiW) (bFW : L2.Binds K fdFW ["tokens"] [])
    (GB : FnOk P w K mg base CX0 1 fBad fdBad ["raised", "line", "column"] (spBad E0')) (bB : L2.Binds K fdBad ["raised", "line", "column"] [])
    (GKO : FnOk P w K mg base (L2.CX P w) 15 fKO fdKO ["text"] (spKO K E0')) (bKO : L2.Binds K fdKO ["text"] []) (kKO : KBinds K fdKO ["text"] ["text"] (fun us ws => us ++ ws) (fun us ws => us ++ ws))
    (GKd : FnOk P w K mg base CX0 10 fKd fdKd ["value"] (spAsk kindB)) (bKd : L2.Binds K fdKd ["value"] [])
    (GC : FnOk P w K mg base CX0 5 fCbw fdCbw ["kind"] (spWc 4)) (bC : L2.Binds K fdCbw ["kind"] [])
    (GS : FnOk P w K mg base CX0 2 fSm fdSm ["one", "other"] spSame) (bS : L2.Binds K fdSm ["one", "other"] [])
    (GX : FnOk P w K mg base CX0 5 fLx fdLx ["kind"] (spTx 4)) (bX : L2.Binds K fdLx ["kind"] []) :
    FnOk P w K mg base CX0 18 f (PySem.W.fnOf "_law_read_right" "_law_read_right" (defArgs sRR) (defBody sRR) (defScope sRR) .none kV doc pm an (.ref cR) ct) ["text"] (spRR PTR PTL) := by
  refine fn_of lk hcd scRR (fun vs H Q E h => ?_) (fun A outer s H vs Q E hr h => ?_)
  · obtain ⟨z, rfl, _⟩ := h
    rfl
  · obtain ⟨z, rfl, hz, hT, k⟩ := h
    have hr1 : Room 1 _ := hr.mono (by decide)
    have hr2 : Room 2 _ := hr.mono (by decide)
    have hr3 : Room 3 _ := hr.mono (by decide)
    have hr5 : Room 5 _ := hr.mono (by decide)
    have hr10 : Room 10 _ := hr.mono (by decide)
    have hr15 : Room 15 _ := hr.mono (by decide)
    refine ⟨_, PSs.nox (pss_cons (ps_set (i := 1) scRR.nd rfl (Or.inl rfl) (pe_call GGT hr1 (by rfl) T.gt T.kgt bGT .nil pass0 (pa_cons (pv 0) pa_nil)))
      (pss_cons (ps_set (i := 2) scRR.nd rfl (Or.inl rfl) (pe_call GFW hr3 (by rfl) T.fw T.kfw bFW .nil pass0 (pa_cons (pv 1) pa_nil)))
      (pss_cons (ps_if (pt_cmpR op_notN (pv 2) pe_non (nomark _)) (pss_one (ps_ret (pe_call GB hr1 (by rfl) T.bad T.kbad bB .nil pass0 (pa_cons (pe_lamcall (k := 15) (by rfl) T.cgt T.kcgt lkg hcg bCgt scC rfl (Or.inl rfl) (caught_gives T.ce) TB rfl (List.mem_cons_self ..) (tbs_r hne) hr (lamS_by (by show LamX.lamSB (defScope sRR) _ = true; decide +kernel)) rfl (fun _ _ _ _ _ => rfl) (fun A outer s H E f c' hr2 => pe_call GKO hr2 (by rfl) T.ko T.kko bKO .nil (passes_call (takes_of rfl rfl rfl rfl) (fun _ _ _ _ h => h)) (pa_cons (pv 0) pa_nil))) (pa_cons (pe_ix ix_tup (pe_ix ix_list (pv 1) (pv 2) (fun _ _ => rfl)) pe_int (fun _ _ => rfl)) (pa_cons (pe_ix ix_tup (pe_ix ix_list (pv 1) (pv 2) (fun _ _ => rfl)) pe_int (fun _ _ => rfl)) pa_nil)))))) pss_nil)
      (pss_cons (ps_set (i := 3) scRR.nd rfl (Or.inl rfl) (pe_callK0 GKO hr15 (by rfl) T.ko T.kko kKO passL (pk_cons (pv 0) pk_nil)))
      (pss_one (ps_ret (pe_and (pe_call GKd hr10 (by rfl) T.kd T.kkd bKd .nil pass0 (pa_cons (pv 3) pa_nil)) (pe_and (pe_cmpR op_le (pe_call GC hr5 (by rfl) T.cbw T.kcbw bC .nil pass0 (pa_cons (pv 3) pa_nil)) pe_int (nomark _)) (pe_one (pe_call GS hr2 (by rfl) T.sm T.ksm bS .nil pass0 (pa_cons (pe_call GX hr5 (by rfl) T.lx T.klx bX .nil pass0 (pa_cons (pv 3) pa_nil)) (pa_cons (pv 0) pa_nil)))))))))))), ?_⟩
    obtain ⟨f1, f2⟩ := fw_ko (z := z)
    have hl := hz.len
    have hrw := hz.rows
    have has := hz.as
    have lz : ∀ t ∈ allToks z, t.s.length ≤ 10000 := all_lens hl
    refine ⟨_, rfl, z, rfl, by omega, hrw, fun p xs H1 s1 hp0 hp pr hx => ?_⟩
    refine ⟨_, rfl, p, xs, _, rfl, hp, pr, lz, hx, fun H2 s2 => ?_⟩
    have s12 := s1.trans s2
    have T2 := hT.ext s12
    cases hko : koE (allToks z) with
    | bad e =>
      have hfw := f1 e hko
      rw [hfw]
      refine ⟨_, rfl, rfl, _, rfl, ?_⟩
      refine iteT ?_
      have hel := fw_lt hfw
      have lx := paired_len pr
      obtain ⟨v, hv⟩ : ∃ v, xs[e]? = some v := ⟨xs[e]'(by omega), List.getElem?_eq_getElem (by omega)⟩
      obtain ⟨t, ht, b, rfl, hb⟩ := paired_at pr hv
      refine ⟨T2, fun H3 x3 T3 => ?_⟩
      refine ⟨_, rfl, .inl ⟨z, rfl, hl, hrw, fun d j h => (by rw [hko] at h; cases h), fun e' he' t' ht' dd H4 s4 h4 => ?_⟩⟩
      have ee : e = e' := by
        rw [hko] at he'
        injection he'
      subst ee
      obtain rfl : t = t' := Option.some.inj (ht.symm.trans ht')
      refine ⟨true, T.exm, fun _ b1 hb1 => ?_, fun z => nomatch z⟩
      generalize hH5 : upd H4 b1 _ = H5
      obtain ⟨s5, e5⟩ := freshF hb1 hH5
      have s45 := s4.trans s5
      have hp5 := s45 _ _ (x3 _ _ (s2 _ _ hp) (fun _ z => by cases z))
      have hb5 := s45 _ _ (x3 _ _ (s2 _ _ hb) (fun _ z => by cases z))
      refine ⟨_, rfl, _, rfl, p, xs, _, _, rfl, rfl, SqL.of hp5, atI_nat hv, b, t.vs, 0, _, rfl, rfl, SqT.of hb5, atI_nat (j := 0) rfl, ?_⟩
      refine ⟨_, rfl, _, rfl, p, xs, _, _, rfl, rfl, SqL.of hp5, atI_nat hv, b, t.vs, 1, _, rfl, rfl, SqT.of hb5, atI_nat (j := 1) rfl, ?_⟩
      refine ⟨b1, dd, t.n, t.c, rfl, e5, s5 _ _ h4, fun H6 s6 => ?_⟩
      exact k H6 (((ExtN.of s12).trans x3).trans (ExtN.of (s45.trans s6))) (T3.ext (s45.trans s6))
    | ok d j =>
      have hfw := f2 d j hko
      rw [hfw]
      refine ⟨_, rfl, rfl, _, rfl, ?_⟩
      refine iteF ?_
      obtain ⟨g1, g2, g3⟩ := read_due hko
      have g1' := g1
      unfold kindB at g1'
      rw [Bool.and_eq_true, decide_eq_true_eq] at g1'
      obtain ⟨hf, hw⟩ := g1'
      refine ⟨_, rfl, .inl ⟨z, rfl, hl, hrw, fun d' j' h v H3 s3 hv => ?_, fun e' he' => (by rw [hko] at he'; cases he')⟩⟩
      have ed : d = d' := by
        rw [hko] at h
        injection h
      subst ed
      refine ⟨_, rfl, p, v, d, rfl, hv p, fun H4 s4 => ⟨_, rfl, ?_⟩⟩
      rw [g1]
      refine iteT ?_
      refine ⟨_, rfl, by decide, p, v, d, rfl, (hv p).keep (Kv.of s4), hf, fun H5 s5 => ⟨_, _, rfl, rfl, _, rfl, ?_⟩⟩
      refine ifT (decide_eq_true hw) ?_
      refine ⟨_, rfl, by decide, by decide, p, v, d, rfl, (hv p).keep (Kv.of (s4.trans s5)), hf, fun H6 s6 => ?_⟩
      have hlen : (txtN 4 d).length ≤ Bt 3 := txt_len 3 d hf
      have hB : Bt 3 = 4478 := rfl
      have h1 := split_one fun c hc => (txt_sg 3 d hf c hc).1
      refine ⟨_, rfl, txtN 4 d, z, rfl, by omega, by omega, by rw [h1]; exact (by decide : 1 ≤ 1500), hrw, txt_asc 3 d hf, has, by rw [own_due hf, g3], fun H7 s7 => ?_⟩
      have s27 := ((s3.trans s4).trans (s5.trans s6)).trans s7
      exact k H7 (ExtN.of (s12.trans s27)) (T2.ext s27)
end
end K3

set_option Elab.async false
set_option linter.all false
set_option pp.maxSteps 700
set_option maxRecDepth 100000
set_option maxHeartbeats 4000000
namespace K3
open PySem PySem.Spec PyProof.Rows L2
open TL (tl)
/-! ### values as data to be compared -/
mutual
def toPy : Dt → PyData
  | .non => .none
  | .bl b => .bool b
  | .int i => .int i
  | .str s => .str s
  | .lst l => .list (toPys l)
  | .tup l => .tuple (toPys l)
  | .dic => .dict []
def toPys : List Dt → List PyData
  | [] => []
  | d :: l => toPy d :: toPys l
end
theorem toPys_map {l : List Dt} : toPys l = l.map toPy := by
  induction l with
  | nil => rfl
  | cons x l ih => rw [List.map_cons, ← ih]; rfl
mutual
theorem dv_dp {K : PySem.W.Frag} {g : Addr} {H : Hp} : ∀ {v : V} {d : Dt}, pur d = true → DV g H v d → Dp K H v (toPy d)
  | _, _, _, .non => .non
  | _, _, _, .bl b => .bl b
  | _, _, _, .int i => .int i
  | _, _, _, .str h => .str _
  | _, _, p, .lst e n h r => by cases p
  | _, _, p, .tup e h r => .tup (SqT.of e) (dvs_dp (by exact p) r)
  | _, _, p, .dic e => by cases p
theorem dvs_dp {K : PySem.W.Frag} {g : Addr} {H : Hp} : ∀ {v : List V} {d : List Dt}, purs d = true → DVs g H v d → DpAll K H v (toPys d)
  | _, _, _, .nil => .nil
  | _, _, p, .cons h r => by
    have p : (pur _ && purs _) = true := p
    rw [Bool.and_eq_true] at p
    exact .cons (dv_dp p.1 h) (dvs_dp p.2 r)
end
mutual
theorem pur_lay : ∀ {d : Dt}, pur d = true → (toPy d).canLay0 = true ∧ (toPy d).depth = dep d
  | .non, _ => ⟨rfl, rfl⟩
  | .bl _, _ => ⟨rfl, rfl⟩
  | .int _, _ => ⟨rfl, rfl⟩
  | .str s, p => ⟨p, rfl⟩
  | .lst _, p => by cases p
  | .tup l, p => by
    obtain ⟨a, b⟩ := purs_lay (l := l) p
    refine ⟨a, ?_⟩
    show PyData.depthAll (toPys l) + 1 = deps l + 1
    rw [b]
  | .dic, p => by cases p
theorem purs_lay : ∀ {l : List Dt}, purs l = true → PyData.canLayAll0 (toPys l) = true ∧ PyData.depthAll (toPys l) = deps l
  | [], _ => ⟨rfl, rfl⟩
  | d :: l, p => by
    have p : (pur d && purs l) = true := p
    rw [Bool.and_eq_true] at p
    obtain ⟨a, b⟩ := pur_lay p.1
    obtain ⟨c, e⟩ := purs_lay p.2
    refine ⟨?_, ?_⟩
    · show ((toPy d).canLay0 && PyData.canLayAll0 (toPys l)) = true
      rw [a, c]
      rfl
    · show max (toPy d).depth (PyData.depthAll (toPys l)) = max (dep d) (deps l)
      rw [b, e]
end
theorem shaped_of {d : Dt} (p : pur d = true) (h : dep d ≤ 64) : SeqAt.shaped (toPy d) = true := by
  obtain ⟨a, b⟩ := pur_lay p
  unfold SeqAt.shaped
  rw [a, b, decide_eq_true h]
  rfl
theorem shaped_lst {l : List Dt} (p : purs l = true) (h : deps l ≤ 63) : SeqAt.shaped (.list (toPys l)) = true := by
  obtain ⟨a, b⟩ := purs_lay p
  unfold SeqAt.shaped
  show (PyData.canLayAll0 (toPys l) && decide (PyData.depthAll (toPys l) + 1 ≤ 64)) = true
  rw [a, b, decide_eq_true (by omega)]
  rfl
theorem eqv_self {d : Dt} (p : pur d = true) : PyData.eqv (toPy d) (toPy d) = true := PySem.SeqAt.eqv_refl _ (pur_lay p).1
theorem eqv_lst {l : List Dt} (p : purs l = true) : PyData.eqv (.list (toPys l)) (.list (toPys l)) = true := PySem.SeqAt.eqv_refl _ (purs_lay p).1
theorem formed_dep : ∀ (n : Nat) (d : Dt), formed n d = true → dep d ≤ 3 * n
  | n, d, h => by
    rcases formed_cases h with ⟨s, rfl, _⟩ | ⟨m, rfl, ⟨l, rfl, h1, h2, h3, _⟩ | ⟨i, z, rfl, h1, h2, h3⟩⟩
    · exact Nat.zero_le _
    · have : deps l ≤ 3 * (m + 1) + 1 := deps_le fun p hp => by
        obtain ⟨s, y, rfl, _, hy⟩ := pairF_of (h3 p hp)
        have := formed_dep (m + 1) _ hy
        show max 0 (max (dep y) 0) + 1 ≤ _
        omega
      show max 0 (max (deps l + 1) 0) + 1 ≤ _
      omega
    · have := formed_dep (m + 1) _ h3
      show max 0 (max 0 (max (dep z) 0)) + 1 ≤ _
      omega
  termination_by n => n
/-! ### kinds with other names -/
structure GoodF (f : Str → Str) : Prop where
  fix : ∀ s ∈ (["row", "record", "number", "truth"] : List Str), f s = s
  nm : ∀ s ∈ kn6, nameS (f s) = true
  inj : ∀ s ∈ kn6, ∀ t ∈ kn6, f s = f t → s = t
theorem kw_old : ∀ s ∈ (["row", "record", "number", "truth"] : List Str), s ∉ oldS ++ xlw := by decide +kernel
theorem kn_old : ∀ s ∈ kn6, s ∈ oldS ++ xlw := by decide +kernel
theorem TblOk.good {kvs : List (Key × V)} (t : TblOk kvs) : GoodF (lookS kvs) := by
  obtain ⟨ts, xs, h, hh⟩ := t.ex
  have fix : ∀ s, s ∉ oldS ++ xlw → lookS kvs s = s := fun s hs => by
    unfold lookS
    cases e : valV kvs (.inr s) with
    | none => rfl
    | some v =>
      obtain ⟨x, e1, e2⟩ := h.key _ _ e
      injection e1 with e1
      exact absurd (e1 ▸ e2) hs
  refine ⟨fun s hs => fix s (kw_old s hs), fun s hs => ?_, fun s hs t ht e => ?_⟩
  · rcases hh with ⟨rfl, _⟩ | rfl
    · exact (kn6_ok s hs).2.1
    · obtain ⟨v, e⟩ := h.full s (kn_old s hs)
      obtain ⟨z, rfl, hz, _⟩ := h.val _ _ e
      unfold lookS
      rw [e]
      exact hz
  · rcases hh with ⟨rfl, _⟩ | rfl
    · exact e
    · obtain ⟨v, e1⟩ := h.full s (kn_old s hs)
      obtain ⟨u, e2⟩ := h.full t (kn_old t ht)
      obtain ⟨z, rfl, hz, _⟩ := h.val _ _ e1
      obtain ⟨y, rfl, hy, _⟩ := h.val _ _ e2
      have l1 : lookS kvs s = z := by unfold lookS; rw [e1]
      have l2 : lookS kvs t = y := by unfold lookS; rw [e2]
      rw [l1, l2] at e
      rw [e] at e1
      have := h.inj _ _ _ e1 e2
      injection this
theorem nodup_map_of {f : Str → Str} : ∀ {l : List Str}, l.Nodup → (∀ s ∈ l, ∀ t ∈ l, f s = f t → s = t) → (l.map f).Nodup
  | [], _, _ => List.nodup_nil
  | x :: l, nd, h => by
    obtain ⟨h1, h2⟩ := List.nodup_cons.mp nd
    refine List.nodup_cons.mpr ⟨fun q => ?_, nodup_map_of h2 fun s hs t ht => h s (List.mem_cons_of_mem _ hs) t (List.mem_cons_of_mem _ ht)⟩
    obtain ⟨y, hy, e⟩ := List.mem_map.mp q
    have := h y (List.mem_cons_of_mem _ hy) x List.mem_cons_self e
    exact h1 (this ▸ hy)
theorem ren_ok {f : Str → Str} (G : GoodF f) : ∀ (n : Nat) (d : Dt), formed n d = true → inK (fun s => decide (s ∈ kn6)) n d = true → formed n (ren f d) = true ∧ wordsN n (ren f d) = wordsN n d
  | n, d, h, hk => by
    rcases formed_cases h with ⟨s, rfl, hs⟩ | ⟨m, rfl, ⟨l, rfl, h1, h2, h3, h4⟩ | ⟨i, z, rfl, h1, h2, h3⟩⟩
    · have e : ren f (.str s) = .str s := by
        show Dt.str (f s) = _
        rw [G.fix s (by rcases plain_two hs with rfl | rfl <;> simp)]
      rw [e]
      exact ⟨h, rfl⟩
    · have hk : l.all (fun p => decide (nmOf p ∈ kn6) && inK (fun s => decide (s ∈ kn6)) (m + 1) (sndD p)) = true := hk
      rw [List.all_eq_true] at hk
      have e : ren f (.tup [.str "record", .tup l]) = .tup [.str "record", .tup (l.map (ren f))] := by
        show Dt.tup [.str (f "record"), .tup (rens f l)] = _
        rw [G.fix "record" (by simp), rens_map]
      have each : ∀ p ∈ l, pairF (formed (m + 1)) (ren f p) = true ∧ sndW (wordsN (m + 1)) (ren f p) = sndW (wordsN (m + 1)) p ∧ nmOf (ren f p) = f (nmOf p) ∧ nmOf p ∈ kn6 := fun p hp => by
        have q := hk p hp
        rw [Bool.and_eq_true, decide_eq_true_eq] at q
        obtain ⟨s, y, rfl, hs, hy⟩ := pairF_of (h3 p hp)
        obtain ⟨a, b⟩ := ren_ok G (m + 1) y hy q.2
        refine ⟨?_, b, rfl, q.1⟩
        show (nameS (f s) && formed (m + 1) (ren f y)) = true
        rw [G.nm s q.1, a]
        rfl
      rw [e, formed_two, words_two, words_two]
      refine ⟨?_, ?_⟩
      · show (true && ((decide (1 ≤ ((l.map (ren f)).length : Int)) && decide (((l.map (ren f)).length : Int) ≤ 6)) && ((l.map (ren f)).all (pairF (formed (m + 1))) && decide ((l.map (ren f)).map nmOf).Nodup))) = true
        rw [List.length_map, decide_eq_true (show 1 ≤ (l.length : Int) by omega), decide_eq_true (show (l.length : Int) ≤ 6 by omega)]
        have a1 : (l.map (ren f)).all (pairF (formed (m + 1))) = true := by
          rw [List.all_eq_true]
          intro d hd
          obtain ⟨p, hp, rfl⟩ := List.mem_map.mp hd
          exact (each p hp).1
        have a2 : ((l.map (ren f)).map nmOf).Nodup := by
          have e2 : (l.map (ren f)).map nmOf = (l.map nmOf).map f := by
            rw [List.map_map, List.map_map]
            exact List.map_congr_left fun p hp => (each p hp).2.2.1
          rw [e2]
          refine nodup_map_of h4 fun s hs t ht => ?_
          obtain ⟨p, hp, rfl⟩ := List.mem_map.mp hs
          obtain ⟨q, hq, rfl⟩ := List.mem_map.mp ht
          exact G.inj _ (each p hp).2.2.2 _ (each q hq).2.2.2
        rw [a1, decide_eq_true a2]
        rfl
      · show ((l.map (ren f)).map (sndW (wordsN (m + 1)))).sum = (l.map (sndW (wordsN (m + 1)))).sum
        rw [List.map_map]
        congr 1
        exact List.map_congr_left fun p hp => (each p hp).2.1
    · have e : ren f (.tup [.str "row", .int i, z]) = .tup [.str "row", .int i, ren f z] := by
        show Dt.tup [.str (f "row"), .int i, ren f z] = _
        rw [G.fix "row" (by simp)]
      have hk : inK (fun s => decide (s ∈ kn6)) (m + 1) z = true := hk
      obtain ⟨a, b⟩ := ren_ok G (m + 1) z h3 hk
      rw [e, formed_two, words_two, words_two]
      refine ⟨?_, ?_⟩
      · show (true && ((decide (1 ≤ i) && decide (i ≤ 64)) && formed (m + 1) (ren f z))) = true
        rw [decide_eq_true h1, decide_eq_true h2, a]
        rfl
      · show i * wordsN (m + 1) (ren f z) = i * wordsN (m + 1) z
        rw [b]
  termination_by n => n
  decreasing_by all_goals omega
theorem cnt4 : cntK 4 ≤ 15000 := by decide
theorem bnd4 : bnd 4 = 4000000 := rfl
end K3

set_option Elab.async false
set_option linter.all false
set_option pp.maxSteps 700
set_option maxRecDepth 100000
set_option maxHeartbeats 8000000
namespace K3
open PySem PySem.Spec PyProof.Rows L2
open LamX (GivesTo CodeO Tabs TabS TabB tLam pe_lamcall lamCx lamEnv lamS_by ExtN)
open TL (tl)
def spLaw (K : PySem.W.Frag) (PTR PTL : Addr) : Sp := fun vs H Q _ => ∃ (a : Addr) (ns : List Int), vs = [.ref a] ∧ SqL K H a (ns.map V.int) ∧ ns.length ≤ 63 ∧ H PTR = some (.tbl #[]) ∧ H PTL = some (.tbl #[]) ∧ ∀ H', Q (.bl true) H'
structure MgW (K : PySem.W.Frag) (mg : Str → Option Value) (CE E' C fBeg fNmd fKnd fP fTab fLx fKT fKO fNo fGT fBn fNe fRR fBad fCgt : Addr) : Prop where
  beg : mg "_law_begun" = some (.ref fBeg)
  kbeg : PySem.W.keepIn K (.ref fBeg) = true
  nmd : mg "_law_tx_named" = some (.ref fNmd)
  knmd : PySem.W.keepIn K (.ref fNmd) = true
  knd : mg "_law_cb_kind" = some (.ref fKnd)
  kknd : PySem.W.keepIn K (.ref fKnd) = true
  pk : mg "_law_pick" = some (.ref fP)
  kpk : PySem.W.keepIn K (.ref fP) = true
  tab : mg "_law_tx_table" = some (.ref fTab)
  ktab : PySem.W.keepIn K (.ref fTab) = true
  lx : mg "_law_tx_kind" = some (.ref fLx)
  klx : PySem.W.keepIn K (.ref fLx) = true
  kt : mg "kind_text" = some (.ref fKT)
  kkt : PySem.W.keepIn K (.ref fKT) = true
  ko : mg "kind_of" = some (.ref fKO)
  kko : PySem.W.keepIn K (.ref fKO) = true
  no : mg "_law_tx_noisy" = some (.ref fNo)
  kno : PySem.W.keepIn K (.ref fNo) = true
  gt : mg "_law_tx_tokens" = some (.ref fGT)
  kgt : PySem.W.keepIn K (.ref fGT) = true
  bn : mg "_law_bent" = some (.ref fBn)
  kbn : PySem.W.keepIn K (.ref fBn) = true
  ne : mg "_law_near" = some (.ref fNe)
  kne : PySem.W.keepIn K (.ref fNe) = true
  rr : mg "_law_read_right" = some (.ref fRR)
  krr : PySem.W.keepIn K (.ref fRR) = true
  bad : mg "_law_tx_bad" = some (.ref fBad)
  kbad : PySem.W.keepIn K (.ref fBad) = true
  cgt : mg "_law_caught" = some (.ref fCgt)
  kcgt : PySem.W.keepIn K (.ref fCgt) = true
  ce : mg "ClockError" = some (.ref CE)
  bk : mg "BadKind" = some (.ref C)
  exm : PySem.W.exmOne K (.ref E') (.ref CE) = some true
  exk : PySem.W.exmOne K (.ref C) (.ref CE) = some true
  exc : ExcC K C
  isi : mg "isinstance" = none
  rng : mg "range" = none
  len : mg "len" = none
  min : mg "min" = none
def bads : List Dt := [.non, .int 0, .lst [.str "number"], .tup [.str "number"], .bl true, .dic]
theorem bads_no : bads.all (fun d => !kindB d && !isStr d) = true := by decide +kernel
def lits4 : List Str := ["", " number", "#", "\n\nnumber # x\n"]
theorem lits4_ok : ∀ z ∈ lits4, TxtOk z := by
  have h : lits4.all (fun z => decide (z.length ≤ 100) && (tl z).all (fun c => decide (c < 128))) = true := by decide +kernel
  intro z hz
  have := List.all_eq_true.mp h z hz
  rw [Bool.and_eq_true, decide_eq_true_iff] at this
  have r := rows_len z
  exact ⟨by omega, by omega, as_of this.2⟩
section
variable {P : Program} {w : World} {K : PySem.W.Frag} {mg : Str → Option Value} {base : Heap}
theorem scLaw : FnScope ["script", "state", "lap", "kind", "text", "turn", "some", "bad"] ["script"] (defScope sLaw) := ⟨rfl, rfl, rfl, by decide +kernel, rfl, by decide +kernel, by decide +kernel⟩
theorem ok_law {f cL PTR PTL CE E' C fBeg fNmd fKnd fP fTab fLx fKT fKO fNo fGT fBn fNe fRR fBad fCgt : Addr} {fdBeg fdNmd fdKnd fdP fdTab fdLx fdKT fdKO fdNo fdGT fdBn fdNe fdRR fdBad : FuncData} {oc kV doc pm ct : Value} {od an : Option Addr} {sl : Array (Option Value)}
    {ocg kVg docg pmg cdg ctg : Value} {odg ang : Option Addr} {slg : Array (Option Value)}
    (lk : K.lookup f = some ⟨oc, od, .func (PySem.W.fnOf "law" "law" (defArgs sLaw) (defBody sLaw) (defScope sLaw) .none kV doc pm an (.ref cL) ct), sl⟩) (hcd : PySem.W.codeIn K (.ref cL) "law" = true)
    (lkg : K.lookup fCgt = some ⟨ocg, odg, .func (PySem.W.fnOf "_law_caught" "_law_caught" (defArgs sCgt) (defBody sCgt) (defScope sCgt) .none kVg docg pmg ang cdg ctg), slg⟩) (hcg : PySem.W.codeIn K cdg "_law_caught" = true)
    (bCgt : L2.Binds K (PySem.W.fnOf "_law_caught" "_law_caught" (defArgs sCgt) (defBody sCgt) (defScope sCgt) .none kVg docg pmg ang cdg ctg) ["action"] [])
    (T : MgW K mg CE E' C fBeg fNmd fKnd fP fTab fLx fKT fKO fNo fGT fBn fNe fRR fBad fCgt) (TB : TabB base mg cL PTL) (hne : PTR ≠ PTL)
    (GBeg : FnOk P w K mg base CX0 1 fBeg fdBeg ["script"] (spBeg K)) (bBeg : L2.Binds K fdBeg ["script"] [])
    (GM : FnOk P w K mg base CX0 14 fNmd fdNmd ["value", "table"] (spNmd 13)) (bM : L2.Binds K fdNmd ["value", "table"] [])
    (GK : FnOk P w K mg base CX0 9 fKnd fdKnd ["state", "deep", "cap"] (spKnd 4)) (bK : L2.Binds K fdKnd ["state", "deep", "cap"] [])
    (GP : FnOk P w K mg base CX0 3 fP fdP ["state", "some"] spPck) (bP : L2.Binds K fdP ["state", "some"] [])
    (GTb : FnOk P w K mg base CX0 5 fTab fdTab ["state"] spTab) (bTb : L2.Binds K fdTab ["state"] [])
    (GX : FnOk P w K mg base CX0 5 fLx fdLx ["kind"] (spTx 4)) (bX : L2.Binds K fdLx ["kind"] [])
    (GKT : FnOk P w K mg base (L2.CX P w) 11 fKT fdKT ["kind"] (spKT C)) (bKT : L2.Binds K fdKT ["kind"] []) (kKT : KBinds K fdKT ["kind"] ["kind"] (fun us ws => us ++ ws) (fun us ws => us ++ ws))
    (GKO : FnOk P w K mg base (L2.CX P w) 15 fKO fdKO ["text"] (spKO K E')) (bKO : L2.Binds K fdKO ["text"] [])
    (GNo : FnOk P w K mg base CX0 4 fNo fdNo ["state", "tokens"] spNoi) (bNo : L2.Binds K fdNo ["state", "tokens"] [])
    (GGT : FnOk P w K mg base CX0 1 fGT fdGT ["text"] spGT) (bGT : L2.Binds K fdGT ["text"] [])
    (GBn : FnOk P w K mg base CX0 4 fBn fdBn ["state", "tokens"] spBnt) (bBn : L2.Binds K fdBn ["state", "tokens"] [])
    (GNe : FnOk P w K mg base CX0 4 fNe fdNe ["state"] spNea) (bNe : L2.Binds K fdNe ["state"] [])
    (GRR : FnOk P w K mg base CX0 18 fRR fdRR ["text"] (spRR PTR PTL)) (bRR : L2.Binds K fdRR ["text"] [])
    (GB : FnOk P w K mg base CX0 1 fBad fdBad ["raised", "line", "column"] (spBad E')) (bB : L2.Binds K fdBad ["raised", "line", "column"] []) :
    FnOk P w K mg base CX0 19 f (PySem.W.fnOf "law" "law" (defArgs sLaw) (defBody sLaw) (defScope sLaw) .none kV doc pm an (.ref cL) ct) ["script"] (spLaw K PTR PTL) := by
  refine fn_of lk hcd scLaw (fun vs H Q E h => ?_) (fun A outer s H vs Q E hr h => ?_)
  · obtain ⟨a, ns, rfl, _⟩ := h
    rfl
  · obtain ⟨a, ns, rfl, hS, hlen, hPR, hPL, k⟩ := h
    have hr1 : Room 1 _ := hr.mono (by decide)
    have hr3 : Room 3 _ := hr.mono (by decide)
    have hr4 : Room 4 _ := hr.mono (by decide)
    have hr5 : Room 5 _ := hr.mono (by decide)
    have hr9 : Room 9 _ := hr.mono (by decide)
    have hr11 : Room 11 _ := hr.mono (by decide)
    have hr14 : Room 14 _ := hr.mono (by decide)
    have hr15 : Room 15 _ := hr.mono (by decide)
    have hr17 : Room 17 _ := hr.mono (by decide)
    have hu := hu_of hr
    refine ⟨_, PSs.nox (pss_cons (ps_set (i := 1) scLaw.nd rfl (Or.inr rfl) (pe_call GBeg hr1 (by rfl) T.beg T.kbeg bBeg .nil pass0 (pa_cons (pv 0) pa_nil)))
      (pss_cons (ps_for PassesOwn.never rfl (pi_range1 (by rfl) T.rng (pa_cons (pe_op op_add pe_int (pe_callB (call_min2 rfl) (by rfl) T.min PyProof.Rows.boot_min (pa_cons (pe_callB call_len_seq (by rfl) T.len PySem.boot_len (pa_cons (pv 0) pa_nil)) (pa_cons pe_int pa_nil)))) pa_nil)) (pg_name (i := 2) scLaw.nd rfl (Or.inl rfl))
          (pss_cons (ps_set (i := 3) scLaw.nd rfl (Or.inl rfl) (pe_call GM hr14 (by rfl) T.nmd T.knmd bM .nil pass0 (pa_cons (pe_call GK hr9 (by rfl) T.knd T.kknd bK .nil pass0 (pa_cons (pv 1) (pa_cons pe_int (pa_cons (pe_call GP hr3 (by rfl) T.pk T.kpk bP .nil pass0 (pa_cons (pv 1) (pa_cons (pe_lst (pa_cons pe_int (pa_cons pe_int (pa_cons pe_int pa_nil)))) pa_nil))) pa_nil)))) (pa_cons (pe_call GTb hr5 (by rfl) T.tab T.ktab bTb .nil pass0 (pa_cons (pv 1) pa_nil)) pa_nil))))
          (pss_cons (ps_set (i := 4) scLaw.nd rfl (Or.inl rfl) (pe_call GX hr5 (by rfl) T.lx T.klx bX .nil pass0 (pa_cons (pv 3) pa_nil)))
          (pss_cons (ps_if (PW.pt (pw_or (pt_cmpR op_ne (pe_callK0 GKT hr11 (by rfl) T.kt T.kkt kKT passL (pk_cons (pv 3) pk_nil)) (pv 4) (nomark _)) (pw_or1 (pt_cmpR (op_neD hr.units) (pe_call GKO hr15 (by rfl) T.ko T.kko bKO .nil passL (pa_cons (pe_call GNo hr4 (by rfl) T.no T.kno bNo .nil pass0 (pa_cons (pv 1) (pa_cons (pe_call GGT hr1 (by rfl) T.gt T.kgt bGT .nil pass0 (pa_cons (pv 4) pa_nil)) pa_nil))) pa_nil)) (pv 3) (nomark _))))) (pss_one (ps_ret pe_bl)) pss_nil)
          (pss_cons (ps_for PassesOwn.never rfl (pi_range1 (by rfl) T.rng (pa_cons pe_int pa_nil)) (pg_name (i := 5) scLaw.nd rfl (Or.inl rfl))
              (pss_cons (ps_set (i := 6) scLaw.nd rfl (Or.inl rfl) (pe_lst (pa_cons (pe_call GBn hr4 (by rfl) T.bn T.kbn bBn .nil pass0 (pa_cons (pv 1) (pa_cons (pe_call GGT hr1 (by rfl) T.gt T.kgt bGT .nil pass0 (pa_cons (pv 4) pa_nil)) pa_nil))) (pa_cons (pe_call GNe hr4 (by rfl) T.ne T.kne bNe .nil pass0 (pa_cons (pv 1) pa_nil)) (pa_cons (pe_call GBn hr4 (by rfl) T.bn T.kbn bBn .nil pass0 (pa_cons (pv 1) (pa_cons (pe_call GGT hr1 (by rfl) T.gt T.kgt bGT .nil pass0 (pa_cons (pe_call GNe hr4 (by rfl) T.ne T.kne bNe .nil pass0 (pa_cons (pv 1) pa_nil)) pa_nil)) pa_nil))) pa_nil)))))
              (pss_one (ps_if (pt_not (pt_val (pe_call GRR hr (by rfl) T.rr T.krr bRR .nil pass0 (pa_cons (pe_call GP hr3 (by rfl) T.pk T.kpk bP .nil pass0 (pa_cons (pv 1) (pa_cons (pe_op op_cat (pv 6) (pe_lst (pa_cons pe_str (pa_cons pe_str (pa_cons pe_str (pa_cons pe_str pa_nil)))))) pa_nil))) pa_nil)))) (pss_one (ps_ret pe_bl)) pss_nil))))
          (pss_cons (ps_set (i := 7) scLaw.nd rfl (Or.inr rfl) (pe_call GP hr3 (by rfl) T.pk T.kpk bP .nil pass0 (pa_cons (pv 1) (pa_cons (pe_lst (pa_cons pe_non (pa_cons pe_int (pa_cons (pe_lst (pa_cons pe_str pa_nil)) (pa_cons (pe_tup (pa_cons pe_str pa_nil)) (pa_cons pe_bl (pa_cons pe_dnewK pa_nil))))))) pa_nil))))
          (pss_cons (ps_if (pt_not (pt_val (pe_call GB hr1 (by rfl) T.bad T.kbad bB .nil pass0 (pa_cons (pe_lamcall (k := 15) (by rfl) T.cgt T.kcgt lkg hcg bCgt scC rfl (Or.inl rfl) (caught_gives T.ce) TB rfl (List.mem_cons_of_mem _ (List.mem_cons_self ..)) (tbs_l hne) hr17 (lamS_by (by show LamX.lamSB (defScope sLaw) _ = true; decide +kernel)) rfl (fun _ _ _ _ _ => rfl)
              (fun A outer s H E f c' hr2 => pe_call GKO hr2 (by rfl) T.ko T.kko bKO .nil (passes_call (takes_of rfl rfl rfl rfl) (fun _ _ _ _ h => h)) (pa_cons (pv 7) pa_nil))) (pa_cons pe_int (pa_cons pe_int pa_nil)))))) (pss_one (ps_ret pe_bl)) pss_nil)
          (pss_one (ps_if (pt_not (pt_val (pe_callB (call_isH0 T.exc) (by rfl) T.isi (by decide +kernel) (pa_cons (pe_lamcall (k := 15) (by rfl) T.cgt T.kcgt lkg hcg bCgt scC rfl (Or.inl rfl) (caught_gives T.ce) TB rfl (List.mem_cons_of_mem _ (List.mem_cons_self ..)) (tbs_l hne) hr17 (lamS_by (by show LamX.lamSB (defScope sLaw) _ = true; decide +kernel)) rfl (fun _ _ _ _ _ => rfl)
              (fun A outer s H E f c' hr2 => pe_call GKT (hr2.mono (by decide)) (by rfl) T.kt T.kkt bKT .nil (passes_call (takes_of rfl rfl rfl rfl) (fun _ _ _ _ h => h)) (pa_cons (pe_call GP (hr2.mono (by decide)) (by rfl) T.pk T.kpk bP .nil pass0 (pa_cons (pv 1) (pa_cons (pe_lst (pa_cons (pv 7) (pa_cons (pe_tup (pa_cons pe_str (pa_cons pe_int (pa_cons pe_str pa_nil)))) (pa_cons (pe_tup pa_nil) pa_nil)))) pa_nil))) pa_nil))) (pa_cons (pe_glob (v := .ref C) (by rfl) T.bk rfl) pa_nil))))) (pss_one (ps_ret pe_bl)) pss_nil)))))))))
      (pss_one (ps_ret pe_bl)))), ?_⟩
    refine ⟨_, rfl, a, ns, rfl, hS, hlen, fun d g c H1 S1 sm1 hd hg => ?_⟩
    have hT1 : Tabs (tbs PTR PTL) H1 := fun p hp => by
      rcases List.mem_cons.mp hp with rfl | hp
      · exact TabS.nil (sm1 _ _ hPR)
      · rw [List.mem_singleton.mp hp]
        exact TabS.nil (sm1 _ _ hPL)
    have hl63 : (ns.map V.int).length ≤ 63 := by rw [List.length_map]; exact hlen
    refine ⟨_, rfl, a, ns.map V.int, rfl, .inl (sm1.seq hS), _, _, rfl, _, _, rfl, rfl, _, rfl, ?_, ?_, for_range (lo := 0) (n := _)
      (fun i σ H' => ∃ (v2 v3 v4 v5 v6 v7 : Option V), σ = [some (.ref a), some (.ref d), v2, v3, v4, v5, v6, v7] ∧ StA H' d g c (30000 * i) ∧ Tabs (tbs PTR PTL) H')
      ⟨none, none, none, none, none, none, rfl, S1, hT1⟩ ?_ ?_⟩
    · split <;> omega
    · split <;> omega
    · rintro i σ H2 hi ⟨v2, v3, v4, v5, v6, v7, rfl, S2, T2⟩
      have hi3 : i < 3 := by
        revert hi
        split <;> omega
      have c4 := cnt4
      -- kind
      refine ⟨_, rfl, _, rfl, (by show 3 ≤ sizeLine; decide), fun q1 hq1 => ?_⟩
      generalize hH3 : upd H2 q1 _ = H3
      obtain ⟨sq1, eq1⟩ := freshF hq1 hH3
      have S3 := S2.keep sq1
      have T3 := T2.ext sq1
      refine ⟨d, g, c, q1, _, _, rfl, S3, by omega, eq1, (S2.free hq1).2.1, by simp, (by show 3 ≤ 1000000; decide), fun v H4 hv S4 kp4 => ?_⟩
      have T4 := tabs_kp T3 S3 kp4
      have hv' : ∃ z : Int, v = .int z ∧ 1 ≤ z ∧ z ≤ 400 := by
        simp only [List.mem_cons, List.not_mem_nil, or_false] at hv
        rcases hv with rfl | rfl | rfl <;> exact ⟨_, rfl, by decide, by decide⟩
      obtain ⟨cap, rfl, cap1, cap4⟩ := hv'
      refine ⟨by decide, by decide, d, g, c, _, cap, rfl, S4, by rw [bnd4]; omega, cap1, cap4, fun kv dk H5 hkv pk fk ik wk dk12 S5 kp5 => ?_⟩
      have T5 := tabs_kp T4 S4 kp5
      refine ⟨_, rfl, d, g, c, _, rfl, S5, by omega, fun t kvs H6 S6 kp6 ht0 ht tb' => ?_⟩
      have T6 := tabs_kp T5 S5 kp6
      have hkv6 := hkv.keep (Kv.kp S5 kp6)
      refine ⟨g, kv, dk, t, kvs, rfl, hkv6, pk, by omega, ht, tb', fun nv H7 hnv pn s7 => ?_⟩
      obtain ⟨q1', q2'⟩ := ren_ok tb'.good 4 dk fk ik
      have S7 := S6.keep s7
      have T7 := T6.ext s7
      have hkB : kindB (ren (lookS kvs) dk) = true := by
        unfold kindB
        rw [q1', q2', decide_eq_true (show wordsN 4 dk ≤ 400 by omega)]
        rfl
      generalize ren (lookS kvs) dk = dn at *
      have hdep := formed_dep 4 dn q1'
      have hsh := shaped_of pn (show dep dn ≤ 64 by omega)
      obtain ⟨ww1, ww2, ww3⟩ := ws_kind q1'
      have hlen4 : (txtN 4 dn).length ≤ Bt 3 := txt_len 3 dn q1'
      have hB3 : Bt 3 = 4478 := rfl
      have hsp1 : (Txt.split (txtN 4 dn) nlS).length ≤ 1500 := by rw [split_one fun c hc => (txt_sg 3 dn q1' c hc).1]; exact (by decide : 1 ≤ 1500)
      have hown := own_due q1'
      -- text
      refine ⟨_, rfl, by decide, by decide, g, nv, dn, rfl, hnv, q1', fun H8 s8 => ?_⟩
      have S8 := S7.keep s8
      have T8 := T7.ext s8
      have hnv8 := hnv.keep (Kv.of s8)
      -- kind_text(kind=kind) != text
      refine ⟨_, rfl, g, nv, dn, rfl, hnv8, .inl ⟨hkB, fun H9 s9 => ?_⟩⟩
      have S9 := S8.keep s9
      have T9 := T8.ext s9
      have hnv9 := hnv8.keep (Kv.of s9)
      refine ⟨_, rfl, rfl, _, rfl, ?_⟩
      refine ifF (by simp) ?_
      -- kind_of(..) != kind
      refine ⟨_, rfl, _, rfl, txtN 4 dn, rfl, by omega, hsp1, fun p xs Ha sa hp0 hp pr hx => ?_⟩
      have Sa := S9.keep sa
      have Ta := T9.ext sa
      have fp := S9.free hp0
      refine ⟨d, g, c, p, _, xs, _, dn, rfl, Sa, by omega, hp, fp.2.1, pr, q1', hown, fun z Hb hz1 hz2 hz3 hz4 Sb kpb => ?_⟩
      have Tb := tabs_kp Ta Sa kpb
      have hnvb := (hnv9.keep (Kv.of sa)).keep (Kv.kp Sa kpb)
      obtain ⟨t0, ht0'⟩ : ∃ t, (allToks z)[0]? = some t := ⟨_, List.getElem?_eq_getElem (all_pos z)⟩
      obtain ⟨jz, hjz⟩ := koE_read ht0' (hz4 _ ht0') hkB hz3
      refine .inl ⟨z, rfl, hz1, hz2, fun d' j' h v2' Hc sc hv2 => ?_, fun e he => (by rw [hjz] at he; cases he)⟩
      have ed : dn = d' := by
        rw [hjz] at h
        injection h
      subst ed
      have Sc := Sb.keep sc
      have Tc := Tb.ext sc
      refine ⟨_, rfl, _, _, dv_dp pn (hv2 g), dv_dp pn (hnvb.keep (Kv.of sc)), hsh, hsh, _, rfl, ?_⟩
      refine ifF (by rw [eqv_self pn]; rfl) ?_
      -- the turns
      refine ⟨4, rfl, by decide, by decide, for_range (lo := 0) (n := 4)
        (fun j σ H' => ∃ (v5 v6 : Option V), σ = [some (.ref a), some (.ref d), some (.int (0 + ↑i)), some nv, some (.str (txtN 4 dn)), v5, v6, v7] ∧ StA H' d g c (30000 * i + 20000 + 60 * j) ∧ Tabs (tbs PTR PTL) H')
        ⟨v5, v6, rfl, Sc.mono (by omega), Tc⟩ ?_ ?_⟩
      · rintro j σ H1 hj ⟨v5, v6, rfl, S1, T1⟩
        -- bent(state, tokens(text))
        refine ⟨_, rfl, _, rfl, txtN 4 dn, rfl, by omega, hsp1, fun p xs H2 s2 hp0 hp pr hx => ?_⟩
        have S2 := S1.keep s2
        have T2 := T1.ext s2
        refine ⟨d, g, c, p, _, xs, _, tkN 4 dn, rfl, S2, by omega, hp, pr, ww1, ww2, ww3, fun z1 H3 k1 S3 kp3 => ?_⟩
        have T3 := tabs_kp T2 S2 kp3
        -- near(state)
        refine ⟨_, rfl, d, g, c, _, rfl, S3, by omega, fun z2 H4 n2 S4 kp4 => ?_⟩
        have T4 := tabs_kp T3 S3 kp4
        -- bent(state, tokens(near(state)))
        refine ⟨_, rfl, _, rfl, d, g, c, _, rfl, S4, by omega, fun z3 H5 n3 S5 kp5 => ?_⟩
        have T5 := tabs_kp T4 S4 kp5
        have l3 := n3.len
        refine ⟨z3, rfl, by omega, n3.ok.rows, fun p3 xs3 H6 s6 hp30 hp3 pr3 hx3 => ?_⟩
        have S6 := S5.keep s6
        have T6 := T5.ext s6
        obtain ⟨w1, w2, w3⟩ := ws_near n3.sg n3.as n3.one (by omega)
        refine ⟨d, g, c, p3, _, xs3, _, wl (tl z3), rfl, S6, by omega, hp3, pr3, w1, w2, w3, fun z4 H7 k4 S7 kp7 => ?_⟩
        have T7 := tabs_kp T6 S6 kp7
        refine ⟨(by show 3 ≤ sizeLine; decide), fun q1 hq1 => ?_⟩
        generalize hH8 : upd H7 q1 _ = H8
        obtain ⟨sq1, eq1⟩ := freshF hq1 hH8
        have S8 := S7.keep sq1
        have T8 := T7.ext sq1
        -- read_right(pick(..))
        refine ⟨_, rfl, _, rfl, (by show 4 ≤ sizeLine; decide), fun q2 hq2 => ?_⟩
        generalize hH9 : upd H8 q2 _ = H9
        obtain ⟨sq2, eq2⟩ := freshF hq2 hH9
        have S9 := S8.keep sq2
        have T9 := T8.ext sq2
        refine ⟨q1, q2, _, _, rfl, rfl, sq2 _ _ eq1, eq2, (by show 3 + 4 ≤ sizeLine; decide), fun q3 hq3 => ?_⟩
        generalize hHa : upd H9 q3 _ = Ha
        obtain ⟨sq3, eq3⟩ := freshF hq3 hHa
        have Sa := S9.keep sq3
        have Ta := T9.ext sq3
        refine ⟨d, g, c, q3, _, _, rfl, Sa, by omega, eq3, (S9.free hq3).2.1, by simp, (by show 7 ≤ 1000000; decide), fun v Hb hv Sb kpb => ?_⟩
        have Tb := tabs_kp Ta Sa kpb
        obtain ⟨z, rfl, hz⟩ : ∃ z, v = .str z ∧ TxtOk z := by
          simp only [List.mem_append, List.mem_cons, List.not_mem_nil, or_false] at hv
          rcases hv with (rfl | rfl | rfl) | rfl | rfl | rfl | rfl
          · exact ⟨_, rfl, k1⟩
          · exact ⟨_, rfl, n2.ok⟩
          · exact ⟨_, rfl, k4⟩
          · exact ⟨_, rfl, lits4_ok _ (by simp [lits4])⟩
          · exact ⟨_, rfl, lits4_ok _ (by simp [lits4])⟩
          · exact ⟨_, rfl, lits4_ok _ (by simp [lits4])⟩
          · exact ⟨_, rfl, lits4_ok _ (by simp [lits4])⟩
        refine ⟨z, rfl, hz, Tb, fun Hc xc Tc => ⟨_, rfl, ifF rfl ?_⟩⟩
        exact ⟨_, _, rfl, (Sb.extN xc).mono (by omega), Tc⟩
      · rintro σ HA ⟨v5, v6, rfl, SA, TA⟩
        -- bad
        refine ⟨_, rfl, (by show 1 ≤ sizeLine; decide), fun pb0 hpb0 => ?_⟩
        generalize hHb0 : upd HA pb0 _ = Hb0
        obtain ⟨sb0, eb0⟩ := freshF hpb0 hHb0
        have tb0 : Same HA Hb0 := sb0
        have gb0 := (SA.free hpb0).2.1
        refine ⟨(by show 1 ≤ sizeLine; decide), fun pb1 hpb1 => ?_⟩
        generalize hHb1 : upd Hb0 pb1 _ = Hb1
        obtain ⟨sb1, eb1⟩ := freshF hpb1 hHb1
        have tb1 : Same HA Hb1 := tb0.trans sb1
        refine fun pb2 hpb2 => ?_
        generalize hHb2 : upd Hb1 pb2 _ = Hb2
        obtain ⟨sb2, eb2⟩ := freshF hpb2 hHb2
        have tb2 : Same HA Hb2 := tb1.trans sb2
        refine ⟨(by show 6 ≤ sizeLine; decide), fun lb hpb3 => ?_⟩
        generalize hHb3 : upd Hb2 lb _ = Hb
        obtain ⟨sb3, eb3⟩ := freshF hpb3 hHb3
        have tb3 : Same HA Hb := tb2.trans sb3
        have gb3 := ((SA.keep tb2).free hpb3).2.1
        have ub2 : Same Hb2 Hb := sb3
        have ub1 : Same Hb1 Hb := sb2.trans ub2
        have ub0 : Same Hb0 Hb := sb1.trans ub1
        have tb := tb3
        have dvb : DVs g Hb [V.non, V.int 0, V.ref pb0, V.ref pb1, V.bl true, V.ref pb2] [Dt.non, Dt.int 0, Dt.lst [Dt.str "number"], Dt.tup [Dt.str "number"], Dt.bl true, Dt.dic] := (.cons .non (.cons (.int _) (.cons (.lst (ub0 _ _ eb0) gb0 (by show 1 ≤ 1000; decide) (.cons (.str (by decide +kernel)) .nil)) (.cons (.tup (ub1 _ _ eb1) (by show 1 ≤ 1000; decide) (.cons (.str (by decide +kernel)) .nil)) (.cons (.bl _) (.cons (.dic (ub2 _ _ eb2)) .nil))))))
        have eb := eb3
        have hlb := hpb3
        have fb := (SA.keep tb2).free hlb
        have nb := tb2.free hlb
        refine ⟨d, g, c, lb, _, _, rfl, SA.keep tb, by omega, eb, fb.2.1, by simp, (by show 6 ≤ 1000000; decide), fun bv HC hbv SC kpC => ?_⟩
        obtain ⟨db, hdb, hbd⟩ := dvb.pick hbv
        have hbd := hbd.keep (Kv.kp (SA.keep tb) kpC)
        have nob : kindB db = false ∧ isStr db = false := by
          have q := List.all_eq_true.mp bads_no db hdb
          rw [Bool.and_eq_true, Bool.not_eq_true', Bool.not_eq_true'] at q
          exact q
        have TC := tabs_kp (TA.ext tb) (SA.keep tb) kpC
        -- kind_of(bad)
        refine ⟨TC, fun HD eD TD => ?_⟩
        have hbd := hbd.keep (Kv.extN eD)
        have SD := SC.extN eD
        obtain ⟨tb', hty, hk1, _⟩ := hbd.ty (K := K)
        rw [nob.2] at hk1
        refine ⟨_, rfl, .inr ⟨bv, tb', rfl, hty, hk1, fun dd HE sE hE => ?_⟩⟩
        refine ⟨true, T.exm, fun _ b1 hb1 => ?_, fun z => nomatch z⟩
        generalize hHF : upd HE b1 _ = HF
        obtain ⟨sF, eF1⟩ := freshF hb1 hHF
        refine ⟨b1, dd, 1, 1, rfl, eF1, sF _ _ hE, fun HG sG => ⟨_, rfl, ifF rfl ?_⟩⟩
        have sDG := (sE.trans sF).trans sG
        have hbd := hbd.keep (Kv.of sDG)
        have SG := SD.keep sDG
        have TG := TD.ext sDG
        -- kind_text(..)
        refine ⟨TG, fun HH eH TH => ?_⟩
        have hbd := hbd.keep (Kv.extN eH)
        have SH := SG.extN eH
        refine ⟨_, rfl, _, rfl, (by show 3 ≤ sizeLine; decide), fun p1 hp1 => ?_⟩
        generalize hHI : upd HH p1 _ = HI
        obtain ⟨sp1, ep1⟩ := freshF hp1 hHI
        refine ⟨Nat.zero_le _, fun p2 hp2 => ?_⟩
        generalize hHJ : upd HI p2 _ = HJ
        obtain ⟨sp2, ep2⟩ := freshF hp2 hHJ
        refine ⟨(by show 3 ≤ sizeLine; decide), fun p3 hp3 => ?_⟩
        generalize hHK : upd HJ p3 _ = HK
        obtain ⟨sp3, ep3⟩ := freshF hp3 hHK
        have sHK := (sp1.trans sp2).trans sp3
        have SK := SH.keep sHK
        have f3 := (SH.keep (sp1.trans sp2)).free hp3
        refine ⟨d, g, c, p3, _, _, rfl, SK, by omega, ep3, f3.2.1, by simp, (by show 3 ≤ 1000000; decide), fun v HL hv SL kpL => ?_⟩
        obtain ⟨dv, hdv, hnk⟩ : ∃ dv, DV g HL v dv ∧ kindB dv = false := by
          have kk : Kv g HK HL := Kv.kp SK kpL
          simp only [List.mem_cons, List.not_mem_nil, or_false] at hv
          rcases hv with rfl | rfl | rfl
          · exact ⟨db, (hbd.keep (Kv.of sHK)).keep kk, nob.1⟩
          · exact ⟨.tup [.str "row", .int 65, .str "number"], (DV.tup (sp3 _ _ (sp2 _ _ ep1)) (by show 3 ≤ 1000; decide) (.cons (.str (by decide +kernel)) (.cons (.int _) (.cons (.str (by decide +kernel)) .nil)))).keep kk, by decide +kernel⟩
          · exact ⟨.tup [], (DV.tup (sp3 _ _ ep2) (by show 0 ≤ 1000; decide) .nil).keep kk, by decide +kernel⟩
        refine ⟨g, v, dv, rfl, hdv, .inr ⟨hnk, fun HM sM => ?_⟩⟩
        refine ⟨true, T.exk, fun _ b2 hb2 => ?_, fun z => nomatch z⟩
        generalize hHN : upd HM b2 _ = HN
        obtain ⟨sN, eN⟩ := freshF hb2 hHN
        have TK := TH.ext sHK
        have TL' := tabs_kp TK SK kpL
        have TN := TL'.ext (sM.trans sN)
        have SN := SL.keep (sM.trans sN)
        refine ⟨b2, _, _, true, rfl, (fun u h => h), eN, kit_self, _, rfl, ?_⟩
        refine ifF rfl ?_
        exact ⟨_, _, _, _, _, _, rfl, SN.mono (by omega), TN⟩
    · rintro σ H' ⟨v2, v3, v4, v5, v6, v7, rfl, S0, T0⟩
      exact k H'
end
end K3

set_option Elab.async false
set_option linter.all false
set_option pp.maxSteps 700
set_option maxRecDepth 100000
set_option maxHeartbeats 4000000
namespace K3
open PySem PySem.Spec PyProof.Rows L2
open LamX (GivesTo CodeO Tabs TabS TabB tLam pe_lamcall lamCx lamEnv lamS_by ExtN)
open TL (tl)
theorem fn_or {P : Program} {w : World} {K : PySem.W.Frag} {mg : Str → Option Value} {base : Heap} {CX : CXT} {k N : Nat} {f : Addr} {fd : FuncData} {ps : List Str} {spf : Nat → Sp} (F : ∀ n, n ≤ N → FnOk P w K mg base CX k f fd ps (spf n)) :
    FnOk P w K mg base CX k f fd ps (fun vs H Q E => ∃ n, n ≤ N ∧ spf n vs H Q E) :=
  ⟨fun vs H Q E ⟨n, hn, h⟩ => (F n hn).len vs H Q E h, fun A outer s H args us vs Q E hr he hb hv ⟨n, hn, h⟩ => (F n hn).run A outer s H args us vs Q E hr he hb hv h⟩
theorem exm_of {K : PySem.W.Frag} {S B : Addr} (h1 : PySem.W.subIn K (.ref B) (.type "BaseException") = some true) (h2 : PySem.W.isClsIn K B = true) (h3 : PySem.W.typeIn K (.ref B) = some (.type "type")) (h4 : PySem.W.subIn K (.ref S) (.ref B) = some true) :
    PySem.W.exmOne K (.ref S) (.ref B) = some true := by
  have e1 : (PySem.W.subIn K (.ref B) (.type "BaseException") == some true) = true := by rw [h1] <;> rfl
  have e2 : ((PySem.W.clsIn K B).isSome && PySem.W.typeIn K (.ref B) == some (.type "type")) = true := by
    have h2' : (PySem.W.clsIn K B).isSome = true := h2
    rw [h2', h3] <;> rfl
  show (if (PySem.W.subIn K (.ref B) (.type "BaseException") == some true) = true then (if ((PySem.W.clsIn K B).isSome && PySem.W.typeIn K (.ref B) == some (.type "type")) = true then PySem.W.subIn K (.ref S) (.ref B) else none) else none) = some true
  rw [if_pos e1, if_pos e2]
  exact h4
def valStr : Value → Option Str
  | .str s _ => some s
  | _ => none
theorem vals_of : ∀ {us : List Value} {ss : List Str}, us.map valStr = ss.map some → Vals (ss.map V.str) us
  | [], [], _ => .nil
  | [], _ :: _, h => by cases h
  | _ :: _, [], h => by cases h
  | u :: us, s :: ss, h => by
    injection h with h1 h2
    refine .cons ?_ (vals_of h2)
    cases u with
    | str x t =>
      obtain rfl := Option.some.inj h1
      exact ⟨_, rfl⟩
    | _ => cases h1
theorem all_mk {l : PySem.W.OpenLaw} {w : World} {K : PySem.W.Frag} {h : Heap} {mg : Str → Option Value} {fa CE C E BK cR cL PTR PTL aR aQ : Addr} {dR dQ : Option Addr} {its itq : Array Value} {nR nQ : Nat} {slR slQ : Array (Option Value)} {nm q : Str} {N : Addr} {bs bm : List Value} {sn : List Str} {sub : List Value} {ab : Bool} {col : Option Bool} {dd : Option Addr} {m0 m1 m2 m3 m5 : Option Value} (X : K.In h) (G : h.Ns mainGlobals mg) (hfa : mg "law" = some (.ref fa))
    {f1 : Addr} {od1 an1 : Option Addr} {sl1 : Array (Option Value)} {oc1 kV1 dc1 pm1 cd1 ct1 : Value}
    {f2 : Addr} {od2 an2 : Option Addr} {sl2 : Array (Option Value)} {oc2 kV2 dc2 pm2 cd2 ct2 : Value}
    {f3 : Addr} {od3 an3 : Option Addr} {sl3 : Array (Option Value)} {oc3 kV3 dc3 pm3 cd3 ct3 : Value}
    {f4 : Addr} {od4 an4 : Option Addr} {sl4 : Array (Option Value)} {oc4 kV4 dc4 pm4 cd4 ct4 : Value}
    {f5 : Addr} {od5 an5 : Option Addr} {sl5 : Array (Option Value)} {oc5 kV5 dc5 pm5 cd5 ct5 : Value}
    {f6 : Addr} {od6 an6 : Option Addr} {sl6 : Array (Option Value)} {oc6 kV6 dc6 pm6 cd6 ct6 : Value}
    {f7 : Addr} {od7 an7 : Option Addr} {sl7 : Array (Option Value)} {oc7 kV7 dc7 pm7 cd7 ct7 : Value}
    {f8 : Addr} {od8 an8 : Option Addr} {sl8 : Array (Option Value)} {oc8 kV8 dc8 pm8 cd8 ct8 : Value}
    {f9 : Addr} {od9 an9 : Option Addr} {sl9 : Array (Option Value)} {oc9 kV9 dc9 pm9 cd9 ct9 : Value}
    {f10 : Addr} {od10 an10 : Option Addr} {sl10 : Array (Option Value)} {oc10 kV10 dc10 pm10 cd10 ct10 : Value}
    {f11 : Addr} {od11 an11 : Option Addr} {sl11 : Array (Option Value)} {oc11 kV11 dc11 pm11 cd11 ct11 : Value}
    {f12 : Addr} {od12 an12 : Option Addr} {sl12 : Array (Option Value)} {oc12 kV12 dc12 pm12 cd12 ct12 : Value}
    {f13 : Addr} {od13 an13 : Option Addr} {sl13 : Array (Option Value)} {oc13 kV13 dc13 pm13 cd13 ct13 : Value}
    {f14 : Addr} {od14 an14 : Option Addr} {sl14 : Array (Option Value)} {oc14 kV14 dc14 pm14 cd14 ct14 : Value}
    {f15 : Addr} {od15 an15 : Option Addr} {sl15 : Array (Option Value)} {oc15 kV15 dc15 pm15 cd15 ct15 : Value}
    {f16 : Addr} {od16 an16 : Option Addr} {sl16 : Array (Option Value)} {oc16 kV16 dc16 pm16 cd16 ct16 : Value}
    {f17 : Addr} {od17 an17 : Option Addr} {sl17 : Array (Option Value)} {oc17 kV17 dc17 pm17 cd17 ct17 : Value}
    {f18 : Addr} {od18 an18 : Option Addr} {sl18 : Array (Option Value)} {oc18 kV18 dc18 pm18 cd18 ct18 : Value}
    {f19 : Addr} {od19 an19 : Option Addr} {sl19 : Array (Option Value)} {oc19 kV19 dc19 pm19 cd19 ct19 : Value}
    {f20 : Addr} {od20 an20 : Option Addr} {sl20 : Array (Option Value)} {oc20 kV20 dc20 pm20 cd20 ct20 : Value}
    {f21 : Addr} {od21 an21 : Option Addr} {sl21 : Array (Option Value)} {oc21 kV21 dc21 pm21 cd21 ct21 : Value}
    {f22 : Addr} {od22 an22 : Option Addr} {sl22 : Array (Option Value)} {oc22 kV22 dc22 pm22 cd22 ct22 : Value}
    {f23 : Addr} {od23 an23 : Option Addr} {sl23 : Array (Option Value)} {oc23 kV23 dc23 pm23 cd23 ct23 : Value}
    {f24 : Addr} {od24 an24 : Option Addr} {sl24 : Array (Option Value)} {oc24 kV24 dc24 pm24 cd24 ct24 : Value}
    {f25 : Addr} {od25 an25 : Option Addr} {sl25 : Array (Option Value)} {oc25 kV25 dc25 pm25 cd25 ct25 : Value}
    {f26 : Addr} {od26 an26 : Option Addr} {sl26 : Array (Option Value)} {oc26 kV26 dc26 pm26 cd26 ct26 : Value}
    {f27 : Addr} {od27 an27 : Option Addr} {sl27 : Array (Option Value)} {oc27 kV27 dc27 pm27 cd27 ct27 : Value}
    {f28 : Addr} {od28 an28 : Option Addr} {sl28 : Array (Option Value)} {oc28 kV28 dc28 pm28 cd28 ct28 : Value}
    {f29 : Addr} {od29 an29 : Option Addr} {sl29 : Array (Option Value)} {oc29 kV29 dc29 pm29 cd29 ct29 : Value}
    {f30 : Addr} {od30 an30 : Option Addr} {sl30 : Array (Option Value)} {oc30 kV30 dc30 pm30 cd30 ct30 : Value}
    {f31 : Addr} {od31 an31 : Option Addr} {sl31 : Array (Option Value)} {oc31 kV31 dc31 pm31 cd31 ct31 : Value}
    {f32 : Addr} {od32 an32 : Option Addr} {sl32 : Array (Option Value)} {oc32 kV32 dc32 pm32 cd32 ct32 : Value}
    {f33 : Addr} {od33 an33 : Option Addr} {sl33 : Array (Option Value)} {oc33 kV33 dc33 pm33 cd33 ct33 : Value}
    {f34 : Addr} {od34 an34 : Option Addr} {sl34 : Array (Option Value)} {oc34 kV34 dc34 pm34 cd34 ct34 : Value}
    {f35 : Addr} {od35 an35 : Option Addr} {sl35 : Array (Option Value)} {oc35 kV35 dc35 pm35 cd35 ct35 : Value}
    {f36 : Addr} {od36 an36 : Option Addr} {sl36 : Array (Option Value)} {oc36 kV36 dc36 pm36 cd36 ct36 : Value}
    {f37 : Addr} {od37 an37 : Option Addr} {sl37 : Array (Option Value)} {oc37 kV37 dc37 pm37 cd37 ct37 : Value}
    {f38 : Addr} {od38 an38 : Option Addr} {sl38 : Array (Option Value)} {oc38 kV38 dc38 pm38 cd38 ct38 : Value}
    {f39 : Addr} {od39 an39 : Option Addr} {sl39 : Array (Option Value)} {oc39 kV39 dc39 pm39 cd39 ct39 : Value}
    {f40 : Addr} {od40 an40 : Option Addr} {sl40 : Array (Option Value)} {oc40 kV40 dc40 pm40 cd40 ct40 : Value}
    {f41 : Addr} {od41 an41 : Option Addr} {sl41 : Array (Option Value)} {oc41 kV41 dc41 pm41 cd41 ct41 : Value}
    {f42 : Addr} {od42 an42 : Option Addr} {sl42 : Array (Option Value)} {oc42 kV42 dc42 pm42 cd42 ct42 : Value}
    {f43 : Addr} {od43 an43 : Option Addr} {sl43 : Array (Option Value)} {oc43 kV43 dc43 pm43 cd43 ct43 : Value}
    {f44 : Addr} {od44 an44 : Option Addr} {sl44 : Array (Option Value)} {oc44 kV44 dc44 pm44 cd44 ct44 : Value}
    {f45 : Addr} {od45 an45 : Option Addr} {sl45 : Array (Option Value)} {oc45 kV45 dc45 pm45 ct45 : Value}
    {f46 : Addr} {od46 an46 : Option Addr} {sl46 : Array (Option Value)} {oc46 kV46 dc46 pm46 ct46 : Value}
    {f47 : Addr} {od47 an47 : Option Addr} {sl47 : Array (Option Value)} {oc47 kV47 dc47 pm47 cd47 ct47 : Value}
    {f48 : Addr} {od48 an48 : Option Addr} {sl48 : Array (Option Value)} {oc48 kV48 dc48 pm48 cd48 ct48 : Value}
    {f49 : Addr} {od49 an49 : Option Addr} {sl49 : Array (Option Value)} {oc49 kV49 dc49 pm49 cd49 ct49 : Value}
    {f50 : Addr} {od50 an50 : Option Addr} {sl50 : Array (Option Value)} {oc50 kV50 dc50 pm50 cd50 ct50 : Value}
    {f51 : Addr} {od51 an51 : Option Addr} {sl51 : Array (Option Value)} {oc51 kV51 dc51 pm51 cd51 ct51 : Value}
    {f52 : Addr} {od52 an52 : Option Addr} {sl52 : Array (Option Value)} {oc52 kV52 dc52 pm52 cd52 ct52 : Value}
    {f53 : Addr} {od53 an53 : Option Addr} {sl53 : Array (Option Value)} {oc53 kV53 dc53 pm53 cd53 ct53 : Value}
    {f54 : Addr} {od54 an54 : Option Addr} {sl54 : Array (Option Value)} {oc54 kV54 dc54 pm54 cd54 ct54 : Value}
    {f55 : Addr} {od55 an55 : Option Addr} {sl55 : Array (Option Value)} {oc55 kV55 dc55 pm55 cd55 ct55 : Value}
    {f56 : Addr} {od56 an56 : Option Addr} {sl56 : Array (Option Value)} {oc56 kV56 dc56 pm56 cd56 ct56 : Value}
    {xL : Str} {tL : PySem.Tok}
    {xD : Str} {tD : PySem.Tok}
    {xS : Int} {tS : PySem.Tok}
    {xI : Int} {tI : PySem.Tok}
    {xF : Int} {tF : PySem.Tok}
    {xP : Int} {tP : PySem.Tok}
    {xW : Int} {tW : PySem.Tok}
    {xX : Str} {tX : PySem.Tok}
    {xN : Str} {tN : PySem.Tok}
    {xT : Str} {tT : PySem.Tok}
    {xG : Int} {tG : PySem.Tok}
    (a1 : PySem.W.nsIn K mainGlobals "is_whole" = some (some (.ref f1)))
    (l1 : K.lookup f1 = some ⟨oc1, od1, .func (PySem.W.fnOf "is_whole" "is_whole" (defArgs sWhl) (defBody sWhl) (defScope sWhl) .none kV1 dc1 pm1 an1 cd1 ct1), sl1⟩)
    (c1 : PySem.W.codeIn K cd1 "is_whole" = true)
    (k1 : PySem.W.keepIn K (.ref f1) = true)
    (a2 : PySem.W.nsIn K mainGlobals "is_within" = some (some (.ref f2)))
    (l2 : K.lookup f2 = some ⟨oc2, od2, .func (PySem.W.fnOf "is_within" "is_within" (defArgs sWin) (defBody sWin) (defScope sWin) .none kV2 dc2 pm2 an2 cd2 ct2), sl2⟩)
    (c2 : PySem.W.codeIn K cd2 "is_within" = true)
    (k2 : PySem.W.keepIn K (.ref f2) = true)
    (a3 : PySem.W.nsIn K mainGlobals "is_tuple_of" = some (some (.ref f3)))
    (l3 : K.lookup f3 = some ⟨oc3, od3, .func (PySem.W.fnOf "is_tuple_of" "is_tuple_of" (defArgs sTof) (defBody sTof) (defScope sTof) .none kV3 dc3 pm3 an3 cd3 ct3), sl3⟩)
    (c3 : PySem.W.codeIn K cd3 "is_tuple_of" = true)
    (k3 : PySem.W.keepIn K (.ref f3) = true)
    (a4 : PySem.W.nsIn K mainGlobals "is_tuple_within" = some (some (.ref f4)))
    (l4 : K.lookup f4 = some ⟨oc4, od4, .func (PySem.W.fnOf "is_tuple_within" "is_tuple_within" (defArgs sTin) (defBody sTin) (defScope sTin) .none kV4 dc4 pm4 an4 cd4 ct4), sl4⟩)
    (c4 : PySem.W.codeIn K cd4 "is_tuple_within" = true)
    (k4 : PySem.W.keepIn K (.ref f4) = true)
    (a5 : PySem.W.nsIn K mainGlobals "has_doubles" = some (some (.ref f5)))
    (l5 : K.lookup f5 = some ⟨oc5, od5, .func (PySem.W.fnOf "has_doubles" "has_doubles" (defArgs sDbl) (defBody sDbl) (defScope sDbl) .none kV5 dc5 pm5 an5 cd5 ct5), sl5⟩)
    (c5 : PySem.W.codeIn K cd5 "has_doubles" = true)
    (k5 : PySem.W.keepIn K (.ref f5) = true)
    (a6 : PySem.W.nsIn K mainGlobals "is_name" = some (some (.ref f6)))
    (l6 : K.lookup f6 = some ⟨oc6, od6, .func (PySem.W.fnOf "is_name" "is_name" (defArgs sNm) (defBody sNm) (defScope sNm) .none kV6 dc6 pm6 an6 cd6 ct6), sl6⟩)
    (c6 : PySem.W.codeIn K cd6 "is_name" = true)
    (k6 : PySem.W.keepIn K (.ref f6) = true)
    (a7 : PySem.W.nsIn K mainGlobals "is_plain" = some (some (.ref f7)))
    (l7 : K.lookup f7 = some ⟨oc7, od7, .func (PySem.W.fnOf "is_plain" "is_plain" (defArgs sPl) (defBody sPl) (defScope sPl) .none kV7 dc7 pm7 an7 cd7 ct7), sl7⟩)
    (c7 : PySem.W.codeIn K cd7 "is_plain" = true)
    (k7 : PySem.W.keepIn K (.ref f7) = true)
    (a8 : PySem.W.nsIn K mainGlobals "is_kind" = some (some (.ref f8)))
    (l8 : K.lookup f8 = some ⟨oc8, od8, .func (PySem.W.fnOf "is_kind" "is_kind" (defArgs sKd) (defBody sKd) (defScope sKd) .none kV8 dc8 pm8 an8 cd8 ct8), sl8⟩)
    (c8 : PySem.W.codeIn K cd8 "is_kind" = true)
    (k8 : PySem.W.keepIn K (.ref f8) = true)
    (a9 : PySem.W.nsIn K mainGlobals "_is_formed" = some (some (.ref f9)))
    (l9 : K.lookup f9 = some ⟨oc9, od9, .func (PySem.W.fnOf "_is_formed" "_is_formed" (defArgs sFm) (defBody sFm) (defScope sFm) .none kV9 dc9 pm9 an9 cd9 ct9), sl9⟩)
    (c9 : PySem.W.codeIn K cd9 "_is_formed" = true)
    (k9 : PySem.W.keepIn K (.ref f9) = true)
    (a10 : PySem.W.nsIn K mainGlobals "_are_fields" = some (some (.ref f10)))
    (l10 : K.lookup f10 = some ⟨oc10, od10, .func (PySem.W.fnOf "_are_fields" "_are_fields" (defArgs sFl) (defBody sFl) (defScope sFl) .none kV10 dc10 pm10 an10 cd10 ct10), sl10⟩)
    (c10 : PySem.W.codeIn K cd10 "_are_fields" = true)
    (k10 : PySem.W.keepIn K (.ref f10) = true)
    (a11 : PySem.W.nsIn K mainGlobals "word_count" = some (some (.ref f11)))
    (l11 : K.lookup f11 = some ⟨oc11, od11, .func (PySem.W.fnOf "word_count" "word_count" (defArgs sWc) (defBody sWc) (defScope sWc) .none kV11 dc11 pm11 an11 cd11 ct11), sl11⟩)
    (c11 : PySem.W.codeIn K cd11 "word_count" = true)
    (k11 : PySem.W.keepIn K (.ref f11) = true)
    (a12 : PySem.W.nsIn K mainGlobals "tokens_of" = some (some (.ref f12)))
    (l12 : K.lookup f12 = some ⟨oc12, od12, .func (PySem.W.fnOf "tokens_of" "tokens_of" (defArgs sTO) (defBody sTO) (defScope sTO) .none kV12 dc12 pm12 an12 cd12 ct12), sl12⟩)
    (c12 : PySem.W.codeIn K cd12 "tokens_of" = true)
    (k12 : PySem.W.keepIn K (.ref f12) = true)
    (a13 : PySem.W.nsIn K mainGlobals "_line_tokens" = some (some (.ref f13)))
    (l13 : K.lookup f13 = some ⟨oc13, od13, .func (PySem.W.fnOf "_line_tokens" "_line_tokens" (defArgs sLT) (defBody sLT) (defScope sLT) .none kV13 dc13 pm13 an13 cd13 ct13), sl13⟩)
    (c13 : PySem.W.codeIn K cd13 "_line_tokens" = true)
    (k13 : PySem.W.keepIn K (.ref f13) = true)
    (a14 : PySem.W.nsIn K mainGlobals "_token_end" = some (some (.ref f14)))
    (l14 : K.lookup f14 = some ⟨oc14, od14, .func (PySem.W.fnOf "_token_end" "_token_end" (defArgs sTE) (defBody sTE) (defScope sTE) .none kV14 dc14 pm14 an14 cd14 ct14), sl14⟩)
    (c14 : PySem.W.codeIn K cd14 "_token_end" = true)
    (k14 : PySem.W.keepIn K (.ref f14) = true)
    (a15 : PySem.W.nsIn K mainGlobals "is_whole_text" = some (some (.ref f15)))
    (l15 : K.lookup f15 = some ⟨oc15, od15, .func (PySem.W.fnOf "is_whole_text" "is_whole_text" (defArgs sIWT) (defBody sIWT) (defScope sIWT) .none kV15 dc15 pm15 an15 cd15 ct15), sl15⟩)
    (c15 : PySem.W.codeIn K cd15 "is_whole_text" = true)
    (k15 : PySem.W.keepIn K (.ref f15) = true)
    (a16 : PySem.W.nsIn K mainGlobals "fresh_name" = some (some (.ref f16)))
    (l16 : K.lookup f16 = some ⟨oc16, od16, .func (PySem.W.fnOf "fresh_name" "fresh_name" (defArgs sFre) (defBody sFre) (defScope sFre) .none kV16 dc16 pm16 an16 cd16 ct16), sl16⟩)
    (c16 : PySem.W.codeIn K cd16 "fresh_name" = true)
    (k16 : PySem.W.keepIn K (.ref f16) = true)
    (a17 : PySem.W.nsIn K mainGlobals "text_of_kind" = some (some (.ref f17)))
    (l17 : K.lookup f17 = some ⟨oc17, od17, .func (PySem.W.fnOf "text_of_kind" "text_of_kind" (defArgs sTx) (defBody sTx) (defScope sTx) .none kV17 dc17 pm17 an17 cd17 ct17), sl17⟩)
    (c17 : PySem.W.codeIn K cd17 "text_of_kind" = true)
    (k17 : PySem.W.keepIn K (.ref f17) = true)
    (a18 : PySem.W.nsIn K mainGlobals "read_kind" = some (some (.ref f18)))
    (l18 : K.lookup f18 = some ⟨oc18, od18, .func (PySem.W.fnOf "read_kind" "read_kind" (defArgs sRdK) (defBody sRdK) (defScope sRdK) .none kV18 dc18 pm18 an18 cd18 ct18), sl18⟩)
    (c18 : PySem.W.codeIn K cd18 "read_kind" = true)
    (k18 : PySem.W.keepIn K (.ref f18) = true)
    (a19 : PySem.W.nsIn K mainGlobals "_read_kind" = some (some (.ref f19)))
    (l19 : K.lookup f19 = some ⟨oc19, od19, .func (PySem.W.fnOf "_read_kind" "_read_kind" (defArgs sRKd) (defBody sRKd) (defScope sRKd) .none kV19 dc19 pm19 an19 cd19 ct19), sl19⟩)
    (c19 : PySem.W.codeIn K cd19 "_read_kind" = true)
    (k19 : PySem.W.keepIn K (.ref f19) = true)
    (a20 : PySem.W.nsIn K mainGlobals "_read_fields" = some (some (.ref f20)))
    (l20 : K.lookup f20 = some ⟨oc20, od20, .func (PySem.W.fnOf "_read_fields" "_read_fields" (defArgs sRFs) (defBody sRFs) (defScope sRFs) .none kV20 dc20 pm20 an20 cd20 ct20), sl20⟩)
    (c20 : PySem.W.codeIn K cd20 "_read_fields" = true)
    (k20 : PySem.W.keepIn K (.ref f20) = true)
    (a21 : PySem.W.nsIn K mainGlobals "kind_of" = some (some (.ref f21)))
    (l21 : K.lookup f21 = some ⟨oc21, od21, .func (PySem.W.fnOf "kind_of" "kind_of" (defArgs sKO) (defBody sKO) (defScope sKO) .none kV21 dc21 pm21 an21 cd21 ct21), sl21⟩)
    (c21 : PySem.W.codeIn K cd21 "kind_of" = true)
    (k21 : PySem.W.keepIn K (.ref f21) = true)
    (a22 : PySem.W.nsIn K mainGlobals "kind_text" = some (some (.ref f22)))
    (l22 : K.lookup f22 = some ⟨oc22, od22, .func (PySem.W.fnOf "kind_text" "kind_text" (defArgs sKT) (defBody sKT) (defScope sKT) .none kV22 dc22 pm22 an22 cd22 ct22), sl22⟩)
    (c22 : PySem.W.codeIn K cd22 "kind_text" = true)
    (k22 : PySem.W.keepIn K (.ref f22) = true)
    (a23 : PySem.W.nsIn K mainGlobals "_law_begun" = some (some (.ref f23)))
    (l23 : K.lookup f23 = some ⟨oc23, od23, .func (PySem.W.fnOf "_law_begun" "_law_begun" (defArgs sBeg) (defBody sBeg) (defScope sBeg) .none kV23 dc23 pm23 an23 cd23 ct23), sl23⟩)
    (c23 : PySem.W.codeIn K cd23 "_law_begun" = true)
    (k23 : PySem.W.keepIn K (.ref f23) = true)
    (a24 : PySem.W.nsIn K mainGlobals "_law_mixed" = some (some (.ref f24)))
    (l24 : K.lookup f24 = some ⟨oc24, od24, .func (PySem.W.fnOf "_law_mixed" "_law_mixed" (defArgs sMix) (defBody sMix) (defScope sMix) .none kV24 dc24 pm24 an24 cd24 ct24), sl24⟩)
    (c24 : PySem.W.codeIn K cd24 "_law_mixed" = true)
    (k24 : PySem.W.keepIn K (.ref f24) = true)
    (a25 : PySem.W.nsIn K mainGlobals "_law_draw" = some (some (.ref f25)))
    (l25 : K.lookup f25 = some ⟨oc25, od25, .func (PySem.W.fnOf "_law_draw" "_law_draw" (defArgs sDrw) (defBody sDrw) (defScope sDrw) .none kV25 dc25 pm25 an25 cd25 ct25), sl25⟩)
    (c25 : PySem.W.codeIn K cd25 "_law_draw" = true)
    (k25 : PySem.W.keepIn K (.ref f25) = true)
    (a26 : PySem.W.nsIn K mainGlobals "_law_pick" = some (some (.ref f26)))
    (l26 : K.lookup f26 = some ⟨oc26, od26, .func (PySem.W.fnOf "_law_pick" "_law_pick" (defArgs sPck) (defBody sPck) (defScope sPck) .none kV26 dc26 pm26 an26 cd26 ct26), sl26⟩)
    (c26 : PySem.W.codeIn K cd26 "_law_pick" = true)
    (k26 : PySem.W.keepIn K (.ref f26) = true)
    (a27 : PySem.W.nsIn K mainGlobals "_law_shuffled" = some (some (.ref f27)))
    (l27 : K.lookup f27 = some ⟨oc27, od27, .func (PySem.W.fnOf "_law_shuffled" "_law_shuffled" (defArgs sShf) (defBody sShf) (defScope sShf) .none kV27 dc27 pm27 an27 cd27 ct27), sl27⟩)
    (c27 : PySem.W.codeIn K cd27 "_law_shuffled" = true)
    (k27 : PySem.W.keepIn K (.ref f27) = true)
    (a28 : PySem.W.nsIn K mainGlobals "_law_caught" = some (some (.ref f28)))
    (l28 : K.lookup f28 = some ⟨oc28, od28, .func (PySem.W.fnOf "_law_caught" "_law_caught" (defArgs sCgt) (defBody sCgt) (defScope sCgt) .none kV28 dc28 pm28 an28 cd28 ct28), sl28⟩)
    (c28 : PySem.W.codeIn K cd28 "_law_caught" = true)
    (k28 : PySem.W.keepIn K (.ref f28) = true)
    (a29 : PySem.W.nsIn K mainGlobals "_law_tx_words" = some (some (.ref f29)))
    (l29 : K.lookup f29 = some ⟨oc29, od29, .func (PySem.W.fnOf "_law_tx_words" "_law_tx_words" (defArgs sWds) (defBody sWds) (defScope sWds) .none kV29 dc29 pm29 an29 cd29 ct29), sl29⟩)
    (c29 : PySem.W.codeIn K cd29 "_law_tx_words" = true)
    (k29 : PySem.W.keepIn K (.ref f29) = true)
    (a30 : PySem.W.nsIn K mainGlobals "_law_tx_name" = some (some (.ref f30)))
    (l30 : K.lookup f30 = some ⟨oc30, od30, .func (PySem.W.fnOf "_law_tx_name" "_law_tx_name" (defArgs sNam) (defBody sNam) (defScope sNam) .none kV30 dc30 pm30 an30 cd30 ct30), sl30⟩)
    (c30 : PySem.W.codeIn K cd30 "_law_tx_name" = true)
    (k30 : PySem.W.keepIn K (.ref f30) = true)
    (a31 : PySem.W.nsIn K mainGlobals "_law_tx_table" = some (some (.ref f31)))
    (l31 : K.lookup f31 = some ⟨oc31, od31, .func (PySem.W.fnOf "_law_tx_table" "_law_tx_table" (defArgs sTab) (defBody sTab) (defScope sTab) .none kV31 dc31 pm31 an31 cd31 ct31), sl31⟩)
    (c31 : PySem.W.codeIn K cd31 "_law_tx_table" = true)
    (k31 : PySem.W.keepIn K (.ref f31) = true)
    (a32 : PySem.W.nsIn K mainGlobals "_law_tx_named" = some (some (.ref f32)))
    (l32 : K.lookup f32 = some ⟨oc32, od32, .func (PySem.W.fnOf "_law_tx_named" "_law_tx_named" (defArgs sNmd) (defBody sNmd) (defScope sNmd) .none kV32 dc32 pm32 an32 cd32 ct32), sl32⟩)
    (c32 : PySem.W.codeIn K cd32 "_law_tx_named" = true)
    (k32 : PySem.W.keepIn K (.ref f32) = true)
    (a33 : PySem.W.nsIn K mainGlobals "_law_tx_kind" = some (some (.ref f33)))
    (l33 : K.lookup f33 = some ⟨oc33, od33, .func (PySem.W.fnOf "_law_tx_kind" "_law_tx_kind" (defArgs sLTx) (defBody sLTx) (defScope sLTx) .none kV33 dc33 pm33 an33 cd33 ct33), sl33⟩)
    (c33 : PySem.W.codeIn K cd33 "_law_tx_kind" = true)
    (k33 : PySem.W.keepIn K (.ref f33) = true)
    (a34 : PySem.W.nsIn K mainGlobals "_law_tx_tokens" = some (some (.ref f34)))
    (l34 : K.lookup f34 = some ⟨oc34, od34, .func (PySem.W.fnOf "_law_tx_tokens" "_law_tx_tokens" (defArgs sGT) (defBody sGT) (defScope sGT) .none kV34 dc34 pm34 an34 cd34 ct34), sl34⟩)
    (c34 : PySem.W.codeIn K cd34 "_law_tx_tokens" = true)
    (k34 : PySem.W.keepIn K (.ref f34) = true)
    (a35 : PySem.W.nsIn K mainGlobals "_law_tx_same" = some (some (.ref f35)))
    (l35 : K.lookup f35 = some ⟨oc35, od35, .func (PySem.W.fnOf "_law_tx_same" "_law_tx_same" (defArgs sSame) (defBody sSame) (defScope sSame) .none kV35 dc35 pm35 an35 cd35 ct35), sl35⟩)
    (c35 : PySem.W.codeIn K cd35 "_law_tx_same" = true)
    (k35 : PySem.W.keepIn K (.ref f35) = true)
    (a36 : PySem.W.nsIn K mainGlobals "_law_tx_noisy" = some (some (.ref f36)))
    (l36 : K.lookup f36 = some ⟨oc36, od36, .func (PySem.W.fnOf "_law_tx_noisy" "_law_tx_noisy" (defArgs sNoi) (defBody sNoi) (defScope sNoi) .none kV36 dc36 pm36 an36 cd36 ct36), sl36⟩)
    (c36 : PySem.W.codeIn K cd36 "_law_tx_noisy" = true)
    (k36 : PySem.W.keepIn K (.ref f36) = true)
    (a37 : PySem.W.nsIn K mainGlobals "_law_tx_bad" = some (some (.ref f37)))
    (l37 : K.lookup f37 = some ⟨oc37, od37, .func (PySem.W.fnOf "_law_tx_bad" "_law_tx_bad" (defArgs sBad) (defBody sBad) (defScope sBad) .none kV37 dc37 pm37 an37 cd37 ct37), sl37⟩)
    (c37 : PySem.W.codeIn K cd37 "_law_tx_bad" = true)
    (k37 : PySem.W.keepIn K (.ref f37) = true)
    (a38 : PySem.W.nsIn K mainGlobals "_law_cb_words" = some (some (.ref f38)))
    (l38 : K.lookup f38 = some ⟨oc38, od38, .func (PySem.W.fnOf "_law_cb_words" "_law_cb_words" (defArgs sCbw) (defBody sCbw) (defScope sCbw) .none kV38 dc38 pm38 an38 cd38 ct38), sl38⟩)
    (c38 : PySem.W.codeIn K cd38 "_law_cb_words" = true)
    (k38 : PySem.W.keepIn K (.ref f38) = true)
    (a39 : PySem.W.nsIn K mainGlobals "_law_cb_kind" = some (some (.ref f39)))
    (l39 : K.lookup f39 = some ⟨oc39, od39, .func (PySem.W.fnOf "_law_cb_kind" "_law_cb_kind" (defArgs sKnd) (defBody sKnd) (defScope sKnd) .none kV39 dc39 pm39 an39 cd39 ct39), sl39⟩)
    (c39 : PySem.W.codeIn K cd39 "_law_cb_kind" = true)
    (k39 : PySem.W.keepIn K (.ref f39) = true)
    (a40 : PySem.W.nsIn K mainGlobals "_law_step" = some (some (.ref f40)))
    (l40 : K.lookup f40 = some ⟨oc40, od40, .func (PySem.W.fnOf "_law_step" "_law_step" (defArgs sStp) (defBody sStp) (defScope sStp) .none kV40 dc40 pm40 an40 cd40 ct40), sl40⟩)
    (c40 : PySem.W.codeIn K cd40 "_law_step" = true)
    (k40 : PySem.W.keepIn K (.ref f40) = true)
    (a41 : PySem.W.nsIn K mainGlobals "_law_closed" = some (some (.ref f41)))
    (l41 : K.lookup f41 = some ⟨oc41, od41, .func (PySem.W.fnOf "_law_closed" "_law_closed" (defArgs sClo) (defBody sClo) (defScope sClo) .none kV41 dc41 pm41 an41 cd41 ct41), sl41⟩)
    (c41 : PySem.W.codeIn K cd41 "_law_closed" = true)
    (k41 : PySem.W.keepIn K (.ref f41) = true)
    (a42 : PySem.W.nsIn K mainGlobals "_law_first_wrong" = some (some (.ref f42)))
    (l42 : K.lookup f42 = some ⟨oc42, od42, .func (PySem.W.fnOf "_law_first_wrong" "_law_first_wrong" (defArgs sFiW) (defBody sFiW) (defScope sFiW) .none kV42 dc42 pm42 an42 cd42 ct42), sl42⟩)
    (c42 : PySem.W.codeIn K cd42 "_law_first_wrong" = true)
    (k42 : PySem.W.keepIn K (.ref f42) = true)
    (a43 : PySem.W.nsIn K mainGlobals "_law_bent" = some (some (.ref f43)))
    (l43 : K.lookup f43 = some ⟨oc43, od43, .func (PySem.W.fnOf "_law_bent" "_law_bent" (defArgs sBnt) (defBody sBnt) (defScope sBnt) .none kV43 dc43 pm43 an43 cd43 ct43), sl43⟩)
    (c43 : PySem.W.codeIn K cd43 "_law_bent" = true)
    (k43 : PySem.W.keepIn K (.ref f43) = true)
    (a44 : PySem.W.nsIn K mainGlobals "_law_near" = some (some (.ref f44)))
    (l44 : K.lookup f44 = some ⟨oc44, od44, .func (PySem.W.fnOf "_law_near" "_law_near" (defArgs sNea) (defBody sNea) (defScope sNea) .none kV44 dc44 pm44 an44 cd44 ct44), sl44⟩)
    (c44 : PySem.W.codeIn K cd44 "_law_near" = true)
    (k44 : PySem.W.keepIn K (.ref f44) = true)
    (a45 : PySem.W.nsIn K mainGlobals "_law_read_right" = some (some (.ref f45)))
    (l45 : K.lookup f45 = some ⟨oc45, od45, .func (PySem.W.fnOf "_law_read_right" "_law_read_right" (defArgs sRR) (defBody sRR) (defScope sRR) .none kV45 dc45 pm45 an45 (.ref cR) ct45), sl45⟩)
    (c45 : PySem.W.codeIn K (.ref cR) "_law_read_right" = true)
    (k45 : PySem.W.keepIn K (.ref f45) = true)
    (a46 : PySem.W.nsIn K mainGlobals "law" = some (some (.ref f46)))
    (l46 : K.lookup f46 = some ⟨oc46, od46, .func (PySem.W.fnOf "law" "law" (defArgs sLaw) (defBody sLaw) (defScope sLaw) .none kV46 dc46 pm46 an46 (.ref cL) ct46), sl46⟩)
    (c46 : PySem.W.codeIn K (.ref cL) "law" = true)
    (k46 : PySem.W.keepIn K (.ref f46) = true)
    (a47 : PySem.W.findIn K (.ref E) "__init__" = some (some (.ref f47)))
    (l47 : K.lookup f47 = some ⟨oc47, od47, .func (PySem.W.fnOf "__init__" "BadText.__init__" (defArgs sInit) (defBody sInit) (defScope sInit) .none kV47 dc47 pm47 an47 cd47 ct47), sl47⟩)
    (c47 : PySem.W.codeIn K cd47 "BadText.__init__" = true)
    (k47 : PySem.W.keepIn K (.ref f47) = true)
    (a48 : PySem.W.findIn K (.ref C) "__init__" = some (some (.ref f48)))
    (l48 : K.lookup f48 = some ⟨oc48, od48, .func (PySem.W.fnOf "__init__" "Cursor.__init__" (defArgs sCI) (defBody sCI) (defScope sCI) .none kV48 dc48 pm48 an48 cd48 ct48), sl48⟩)
    (c48 : PySem.W.codeIn K cd48 "Cursor.__init__" = true)
    (k48 : PySem.W.keepIn K (.ref f48) = true)
    (a49 : PySem.W.findIn K (.ref C) "begins" = some (some (.ref f49)))
    (l49 : K.lookup f49 = some ⟨oc49, od49, .func (PySem.W.fnOf "begins" "Cursor.begins" (defArgs sBeginsC) (defBody sBeginsC) (defScope sBeginsC) .none kV49 dc49 pm49 an49 cd49 ct49), sl49⟩)
    (c49 : PySem.W.codeIn K cd49 "Cursor.begins" = true)
    (k49 : PySem.W.keepIn K (.ref f49) = true)
    (a50 : PySem.W.findIn K (.ref C) "tells" = some (some (.ref f50)))
    (l50 : K.lookup f50 = some ⟨oc50, od50, .func (PySem.W.fnOf "tells" "Cursor.tells" (defArgs sTells) (defBody sTells) (defScope sTells) .none kV50 dc50 pm50 an50 cd50 ct50), sl50⟩)
    (c50 : PySem.W.codeIn K cd50 "Cursor.tells" = true)
    (k50 : PySem.W.keepIn K (.ref f50) = true)
    (a51 : PySem.W.findIn K (.ref C) "take" = some (some (.ref f51)))
    (l51 : K.lookup f51 = some ⟨oc51, od51, .func (PySem.W.fnOf "take" "Cursor.take" (defArgs sTake) (defBody sTake) (defScope sTake) .none kV51 dc51 pm51 an51 cd51 ct51), sl51⟩)
    (c51 : PySem.W.codeIn K cd51 "Cursor.take" = true)
    (k51 : PySem.W.keepIn K (.ref f51) = true)
    (a52 : PySem.W.findIn K (.ref C) "take_first" = some (some (.ref f52)))
    (l52 : K.lookup f52 = some ⟨oc52, od52, .func (PySem.W.fnOf "take_first" "Cursor.take_first" (defArgs sTakeF) (defBody sTakeF) (defScope sTakeF) .none kV52 dc52 pm52 an52 cd52 ct52), sl52⟩)
    (c52 : PySem.W.codeIn K cd52 "Cursor.take_first" = true)
    (k52 : PySem.W.keepIn K (.ref f52) = true)
    (a53 : PySem.W.findIn K (.ref C) "take_whole" = some (some (.ref f53)))
    (l53 : K.lookup f53 = some ⟨oc53, od53, .func (PySem.W.fnOf "take_whole" "Cursor.take_whole" (defArgs sTakeW) (defBody sTakeW) (defScope sTakeW) .none kV53 dc53 pm53 an53 cd53 ct53), sl53⟩)
    (c53 : PySem.W.codeIn K cd53 "Cursor.take_whole" = true)
    (k53 : PySem.W.keepIn K (.ref f53) = true)
    (a54 : PySem.W.findIn K (.ref C) "take_name" = some (some (.ref f54)))
    (l54 : K.lookup f54 = some ⟨oc54, od54, .func (PySem.W.fnOf "take_name" "Cursor.take_name" (defArgs sTakeN) (defBody sTakeN) (defScope sTakeN) .none kV54 dc54 pm54 an54 cd54 ct54), sl54⟩)
    (c54 : PySem.W.codeIn K cd54 "Cursor.take_name" = true)
    (k54 : PySem.W.keepIn K (.ref f54) = true)
    (a55 : PySem.W.findIn K (.ref C) "take_end" = some (some (.ref f55)))
    (l55 : K.lookup f55 = some ⟨oc55, od55, .func (PySem.W.fnOf "take_end" "Cursor.take_end" (defArgs sTakeE) (defBody sTakeE) (defScope sTakeE) .none kV55 dc55 pm55 an55 cd55 ct55), sl55⟩)
    (c55 : PySem.W.codeIn K cd55 "Cursor.take_end" = true)
    (k55 : PySem.W.keepIn K (.ref f55) = true)
    (a56 : PySem.W.findIn K (.ref C) "take_if" = some (some (.ref f56)))
    (l56 : K.lookup f56 = some ⟨oc56, od56, .func (PySem.W.fnOf "take_if" "Cursor.take_if" (defArgs sTakeI) (defBody sTakeI) (defScope sTakeI) .none kV56 dc56 pm56 an56 cd56 ct56), sl56⟩)
    (c56 : PySem.W.codeIn K cd56 "Cursor.take_if" = true)
    (k56 : PySem.W.keepIn K (.ref f56) = true)
    (z_len : PySem.W.nsIn K mainGlobals "len" = some none)
    (z_isinstance : PySem.W.nsIn K mainGlobals "isinstance" = some none)
    (z_str : PySem.W.nsIn K mainGlobals "str" = some none)
    (z_abs : PySem.W.nsIn K mainGlobals "abs" = some none)
    (z_int : PySem.W.nsIn K mainGlobals "int" = some none)
    (z_range : PySem.W.nsIn K mainGlobals "range" = some none)
    (z_min : PySem.W.nsIn K mainGlobals "min" = some none)
    (z_list : PySem.W.nsIn K mainGlobals "list" = some none)
    (z_bool : PySem.W.nsIn K mainGlobals "bool" = some none)
    (z_tuple : PySem.W.nsIn K mainGlobals "tuple" = some none)
    (z_all : PySem.W.nsIn K mainGlobals "all" = some none)
    (z_set : PySem.W.nsIn K mainGlobals "set" = some none)
    (z_sum : PySem.W.nsIn K mainGlobals "sum" = some none)
    (z_enumerate : PySem.W.nsIn K mainGlobals "enumerate" = some none)
    (vL : PySem.W.nsIn K mainGlobals "LETTERS" = some (some (.str xL tL)))
    (eL : xL = L26)
    (vD : PySem.W.nsIn K mainGlobals "DIGITS" = some (some (.str xD tD)))
    (eD : xD = D10)
    (vS : PySem.W.nsIn K mainGlobals "MOST_SIGNS" = some (some (.int xS tS)))
    (eS : xS = 8)
    (vI : PySem.W.nsIn K mainGlobals "MOST_ITEMS" = some (some (.int xI tI)))
    (eI : xI = 64)
    (vF : PySem.W.nsIn K mainGlobals "MOST_FIELDS" = some (some (.int xF tF)))
    (eF : xF = 6)
    (vP : PySem.W.nsIn K mainGlobals "MOST_DEEP" = some (some (.int xP tP)))
    (eP : xP = 4)
    (vW : PySem.W.nsIn K mainGlobals "MOST_WORDS" = some (some (.int xW tW)))
    (eW : xW = 400)
    (vX : PySem.W.nsIn K mainGlobals "WORD_SIGNS" = some (some (.str xX tX)))
    (eX : xX = WS)
    (vN : PySem.W.nsIn K mainGlobals "END_OF_LINE" = some (some (.str xN tN)))
    (eN : xN = nlS)
    (vT : PySem.W.nsIn K mainGlobals "END_OF_TEXT" = some (some (.str xT tT)))
    (eT : xT = etS)
    (vG : PySem.W.nsIn K mainGlobals "MOST_DIGITS" = some (some (.int xG tG)))
    (eG : xG = 5)
    (vR : PySem.W.nsIn K mainGlobals "RESERVED" = some (some (.ref aR)))
    (lR : K.lookup aR = some ⟨.type "tuple", dR, .seq its nR, slR⟩)
    (eR : (its.toList.map valStr == wds.map some) = true)
    (vQ : PySem.W.nsIn K mainGlobals "PLAIN" = some (some (.ref aQ)))
    (lQ : K.lookup aQ = some ⟨.type "tuple", dQ, .seq itq nQ, slQ⟩)
    (eQ : (itq.toList.map valStr == (["number", "truth"] : List Str).map some) = true)
    (aCE : PySem.W.nsIn K mainGlobals "ClockError" = some (some (.ref CE)))
    (sE : PySem.W.subIn K (.ref CE) (.type "BaseException") = some true)
    (iE : PySem.W.isClsIn K CE = true)
    (tE : PySem.W.typeIn K (.ref CE) = some (.type "type"))
    (rd : PySem.W.readsIn K CE (.type "type") = true)
    (gE : PySem.W.specialIn K (.ref CE) "__getattribute__" = some (some (.builtin "type.__getattribute__")))
    (fE : PySem.W.findCls K (.ref CE) (.type "type") "__init__" = some (.val (.builtin "ValueError.__init__")))
    (spO : PySem.W.specialIn K (.builtin "object.__class__") "__get__" = some (some (.builtin "getset_descriptor.__get__")))
    (tkO : PySem.W.takesIn K (.builtin "object.__class__") = some true)
    (aC : PySem.W.nsIn K mainGlobals "Cursor" = some (some (.ref C)))
    (kC : PySem.W.keepIn K (.ref C) = true)
    (pgC : PySem.W.plainGet K C Str.empty = true)
    (hdCu : PySem.W.hasDictIn K C = true)
    (poC : PySem.W.plainOver K C = true)
    (saC : PySem.W.findIn K (.ref C) "__setattr__" = some (some (.builtin "object.__setattr__")))
    (mkC : PySem.W.makesIn K C = true)
    (n1 : PySem.W.findIn K (.ref C) "tokens" = some none)
    (n2 : PySem.W.findIn K (.ref C) "completes" = some none)
    (n3 : PySem.W.findIn K (.ref C) "at" = some none)
    (n4 : PySem.W.findIn K (.ref C) "is_over" = some none)
    (xL : K.lookup E = some (excClassObj nm q E N bs bm true sn sub ab col dd m0 m1 m2 m3 m5 "ValueError.__new__"))
    (xR : PySem.HandSPX.refsVE bm = true)
    (sa : PySem.W.findIn K (.ref E) "__setattr__" = some (some (.builtin "object.__setattr__")))
    (nl : PySem.W.findIn K (.ref E) "line" = some none)
    (nc : PySem.W.findIn K (.ref E) "column" = some none)
    (tInit : PySem.W.typeIn K (.ref f47) = some (.type "function"))
    (fn48 : PySem.W.isFn K (.ref f48) = true)
    (fn49 : PySem.W.isFn K (.ref f49) = true)
    (fn50 : PySem.W.isFn K (.ref f50) = true)
    (fn51 : PySem.W.isFn K (.ref f51) = true)
    (fn52 : PySem.W.isFn K (.ref f52) = true)
    (fn53 : PySem.W.isFn K (.ref f53) = true)
    (fn54 : PySem.W.isFn K (.ref f54) = true)
    (fn55 : PySem.W.isFn K (.ref f55) = true)
    (fn56 : PySem.W.isFn K (.ref f56) = true)
    (aE : PySem.W.nsIn K mainGlobals "BadText" = some (some (.ref E)))
    (kE : PySem.W.keepIn K (.ref E) = true)
    (sBE : PySem.W.subIn K (.ref E) (.type "BaseException") = some true)
    (tyE : PySem.W.typeIn K (.ref E) = some (.type "type"))
    (sEE : PySem.W.subIn K (.ref E) (.ref CE) = some true)
    (gtE : PySem.W.findIn K (.ref E) "__getattribute__" = some (some (.builtin "BaseException.__getattribute__")))
    (ggE : PySem.W.findIn K (.ref E) "__getattr__" = some none)
    (hdE : PySem.W.hasDictIn K E = true)
    (clE : PySem.W.findIn K (.ref E) "__class__" = some (some (.builtin "object.__class__")))
    (mrE : PySem.W.mroIn K E (.type "object") = some true)
    (aBK : PySem.W.nsIn K mainGlobals "BadKind" = some (some (.ref BK)))
    (kBK : PySem.W.keepIn K (.ref BK) = true)
    (xBK : PySem.W.excIn K BK excVE "ValueError.__new__" = true)
    (sBBK : PySem.W.subIn K (.ref BK) (.type "BaseException") = some true)
    (tBK : PySem.W.typeIn K (.ref BK) = some (.type "type"))
    (sEBK : PySem.W.subIn K (.ref BK) (.ref CE) = some true)
    (gBK : PySem.W.findIn K (.ref BK) "__getattribute__" = some (some (.builtin "BaseException.__getattribute__")))
    (ggBK : PySem.W.findIn K (.ref BK) "__getattr__" = some none)
    (hdBK : PySem.W.hasDictIn K BK = true)
    (clBK : PySem.W.findIn K (.ref BK) "__class__" = some (some (.builtin "object.__class__")))
    (mrBK : PySem.W.mroIn K BK (.type "object") = some true)
    (hdrR : PySem.W.codeHdIn K cR PTR = true)
    (npR : K.lookup PTR = none)
    (hTR : h.get? PTR = some { cls := .none, data := .fields #[] })
    (hdrL : PySem.W.codeHdIn K cL PTL = true)
    (npL : K.lookup PTL = none)
    (hTL : h.get? PTL = some { cls := .none, data := .fields #[] })
    (hne : PTR ≠ PTL)
    : LamX.LawAtS l w K CX0 19 63 "script" mg fa h := by
  have e := hfa.symm.trans (PySem.W.mg_of X G a46)
  cases e
  subst eL eD eS eI eF eP eW eX eN eT eG
  have F1 := fun_mk (st := sWhl) l1 c1 k1
  have b1 := F1.binds (ps := ["value"]) fun _ _ _ _ _ _ us hl => match us, hl with | [_], _ => rfl
  have F2 := fun_mk (st := sWin) l2 c2 k2
  have b2 := F2.binds (ps := ["value", "low", "high"]) fun _ _ _ _ _ _ us hl => match us, hl with | [_, _, _], _ => rfl
  have F3 := fun_mk (st := sTof) l3 c3 k3
  have b3 := F3.binds (ps := ["value", "many"]) fun _ _ _ _ _ _ us hl => match us, hl with | [_, _], _ => rfl
  have F4 := fun_mk (st := sTin) l4 c4 k4
  have b4 := F4.binds (ps := ["value", "low", "high"]) fun _ _ _ _ _ _ us hl => match us, hl with | [_, _, _], _ => rfl
  have F5 := fun_mk (st := sDbl) l5 c5 k5
  have b5 := F5.binds (ps := ["rows"]) fun _ _ _ _ _ _ us hl => match us, hl with | [_], _ => rfl
  have F6 := fun_mk (st := sNm) l6 c6 k6
  have b6 := F6.binds (ps := ["value"]) fun _ _ _ _ _ _ us hl => match us, hl with | [_], _ => rfl
  have F7 := fun_mk (st := sPl) l7 c7 k7
  have b7 := F7.binds (ps := ["value"]) fun _ _ _ _ _ _ us hl => match us, hl with | [_], _ => rfl
  have F8 := fun_mk (st := sKd) l8 c8 k8
  have b8 := F8.binds (ps := ["value"]) fun _ _ _ _ _ _ us hl => match us, hl with | [_], _ => rfl
  have F9 := fun_mk (st := sFm) l9 c9 k9
  have b9 := F9.binds (ps := ["value", "deep"]) fun _ _ _ _ _ _ us hl => match us, hl with | [_, _], _ => rfl
  have F10 := fun_mk (st := sFl) l10 c10 k10
  have b10 := F10.binds (ps := ["value", "deep"]) fun _ _ _ _ _ _ us hl => match us, hl with | [_, _], _ => rfl
  have F11 := fun_mk (st := sWc) l11 c11 k11
  have b11 := F11.binds (ps := ["kind"]) fun _ _ _ _ _ _ us hl => match us, hl with | [_], _ => rfl
  have F12 := fun_mk (st := sTO) l12 c12 k12
  have b12 := F12.binds (ps := ["text"]) fun _ _ _ _ _ _ us hl => match us, hl with | [_], _ => rfl
  have F13 := fun_mk (st := sLT) l13 c13 k13
  have b13 := F13.binds (ps := ["number", "line"]) fun _ _ _ _ _ _ us hl => match us, hl with | [_, _], _ => rfl
  have F14 := fun_mk (st := sTE) l14 c14 k14
  have b14 := F14.binds (ps := ["line", "at"]) fun _ _ _ _ _ _ us hl => match us, hl with | [_, _], _ => rfl
  have F15 := fun_mk (st := sIWT) l15 c15 k15
  have b15 := F15.binds (ps := ["token", "low", "high"]) fun _ _ _ _ _ _ us hl => match us, hl with | [_, _, _], _ => rfl
  have F16 := fun_mk (st := sFre) l16 c16 k16
  have b16 := F16.binds (ps := ["barred"]) fun _ _ _ _ _ _ us hl => match us, hl with | [_], _ => rfl
  have F17 := fun_mk (st := sTx) l17 c17 k17
  have b17 := F17.binds (ps := ["kind"]) fun _ _ _ _ _ _ us hl => match us, hl with | [_], _ => rfl
  have F18 := fun_mk (st := sRdK) l18 c18 k18
  have b18 := F18.binds (ps := ["cursor"]) fun _ _ _ _ _ _ us hl => match us, hl with | [_], _ => rfl
  have F19 := fun_mk (st := sRKd) l19 c19 k19
  have b19 := F19.binds (ps := ["cursor", "room", "deep"]) fun _ _ _ _ _ _ us hl => match us, hl with | [_, _, _], _ => rfl
  have F20 := fun_mk (st := sRFs) l20 c20 k20
  have b20 := F20.binds (ps := ["cursor", "room", "deep"]) fun _ _ _ _ _ _ us hl => match us, hl with | [_, _, _], _ => rfl
  have F21 := fun_mk (st := sKO) l21 c21 k21
  have b21 := F21.binds (ps := ["text"]) fun _ _ _ _ _ _ us hl => match us, hl with | [_], _ => rfl
  have F22 := fun_mk (st := sKT) l22 c22 k22
  have b22 := F22.binds (ps := ["kind"]) fun _ _ _ _ _ _ us hl => match us, hl with | [_], _ => rfl
  have F23 := fun_mk (st := sBeg) l23 c23 k23
  have b23 := F23.binds (ps := ["script"]) fun _ _ _ _ _ _ us hl => match us, hl with | [_], _ => rfl
  have F24 := fun_mk (st := sMix) l24 c24 k24
  have b24 := F24.binds (ps := ["state"]) fun _ _ _ _ _ _ us hl => match us, hl with | [_], _ => rfl
  have F25 := fun_mk (st := sDrw) l25 c25 k25
  have b25 := F25.binds (ps := ["state", "room"]) fun _ _ _ _ _ _ us hl => match us, hl with | [_, _], _ => rfl
  have F26 := fun_mk (st := sPck) l26 c26 k26
  have b26 := F26.binds (ps := ["state", "some"]) fun _ _ _ _ _ _ us hl => match us, hl with | [_, _], _ => rfl
  have F27 := fun_mk (st := sShf) l27 c27 k27
  have b27 := F27.binds (ps := ["state", "some"]) fun _ _ _ _ _ _ us hl => match us, hl with | [_, _], _ => rfl
  have F28 := fun_mk (st := sCgt) l28 c28 k28
  have b28 := F28.binds (ps := ["action"]) fun _ _ _ _ _ _ us hl => match us, hl with | [_], _ => rfl
  have F29 := fun_mk (st := sWds) l29 c29 k29
  have b29 := F29.binds (ps := []) fun _ _ _ _ _ _ us hl => match us, hl with | [], _ => rfl
  have F30 := fun_mk (st := sNam) l30 c30 k30
  have b30 := F30.binds (ps := ["state", "taken"]) fun _ _ _ _ _ _ us hl => match us, hl with | [_, _], _ => rfl
  have F31 := fun_mk (st := sTab) l31 c31 k31
  have b31 := F31.binds (ps := ["state"]) fun _ _ _ _ _ _ us hl => match us, hl with | [_], _ => rfl
  have F32 := fun_mk (st := sNmd) l32 c32 k32
  have b32 := F32.binds (ps := ["value", "table"]) fun _ _ _ _ _ _ us hl => match us, hl with | [_, _], _ => rfl
  have F33 := fun_mk (st := sLTx) l33 c33 k33
  have b33 := F33.binds (ps := ["kind"]) fun _ _ _ _ _ _ us hl => match us, hl with | [_], _ => rfl
  have F34 := fun_mk (st := sGT) l34 c34 k34
  have b34 := F34.binds (ps := ["text"]) fun _ _ _ _ _ _ us hl => match us, hl with | [_], _ => rfl
  have F35 := fun_mk (st := sSame) l35 c35 k35
  have b35 := F35.binds (ps := ["one", "other"]) fun _ _ _ _ _ _ us hl => match us, hl with | [_, _], _ => rfl
  have F36 := fun_mk (st := sNoi) l36 c36 k36
  have b36 := F36.binds (ps := ["state", "tokens"]) fun _ _ _ _ _ _ us hl => match us, hl with | [_, _], _ => rfl
  have F37 := fun_mk (st := sBad) l37 c37 k37
  have b37 := F37.binds (ps := ["raised", "line", "column"]) fun _ _ _ _ _ _ us hl => match us, hl with | [_, _, _], _ => rfl
  have F38 := fun_mk (st := sCbw) l38 c38 k38
  have b38 := F38.binds (ps := ["kind"]) fun _ _ _ _ _ _ us hl => match us, hl with | [_], _ => rfl
  have F39 := fun_mk (st := sKnd) l39 c39 k39
  have b39 := F39.binds (ps := ["state", "deep", "cap"]) fun _ _ _ _ _ _ us hl => match us, hl with | [_, _, _], _ => rfl
  have F40 := fun_mk (st := sStp) l40 c40 k40
  have b40 := F40.binds (ps := ["state", "word"]) fun _ _ _ _ _ _ us hl => match us, hl with | [_, _], _ => rfl
  have F41 := fun_mk (st := sClo) l41 c41 k41
  have b41 := F41.binds (ps := ["stack", "words"]) fun _ _ _ _ _ _ us hl => match us, hl with | [_, _], _ => rfl
  have F42 := fun_mk (st := sFiW) l42 c42 k42
  have b42 := F42.binds (ps := ["tokens"]) fun _ _ _ _ _ _ us hl => match us, hl with | [_], _ => rfl
  have F43 := fun_mk (st := sBnt) l43 c43 k43
  have b43 := F43.binds (ps := ["state", "tokens"]) fun _ _ _ _ _ _ us hl => match us, hl with | [_, _], _ => rfl
  have F44 := fun_mk (st := sNea) l44 c44 k44
  have b44 := F44.binds (ps := ["state"]) fun _ _ _ _ _ _ us hl => match us, hl with | [_], _ => rfl
  have F45 := fun_mk (st := sRR) l45 c45 k45
  have b45 := F45.binds (ps := ["text"]) fun _ _ _ _ _ _ us hl => match us, hl with | [_], _ => rfl
  have F46 := fun_mk (st := sLaw) l46 c46 k46
  have b46 := F46.binds (ps := ["script"]) fun _ _ _ _ _ _ us hl => match us, hl with | [_], _ => rfl
  have F47 := fun_mk (st := sInit) l47 c47 k47
  have b47 := F47.binds (ps := ["self", "line", "column"]) fun _ _ _ _ _ _ us hl => match us, hl with | [_, _, _], _ => rfl
  have F48 := fun_mk (st := sCI) l48 c48 k48
  have b48 := F48.binds (ps := ["self", "tokens", "completes"]) fun _ _ _ _ _ _ us hl => match us, hl with | [_, _, _], _ => rfl
  have F49 := fun_mk (st := sBeginsC) l49 c49 k49
  have b49 := F49.binds (ps := ["self", "indent"]) fun _ _ _ _ _ _ us hl => match us, hl with | [_, _], _ => rfl
  have F50 := fun_mk (st := sTells) l50 c50 k50
  have b50 := F50.binds (ps := ["self", "token"]) fun _ _ _ _ _ _ us hl => match us, hl with | [_, _], _ => rfl
  have F51 := fun_mk (st := sTake) l51 c51 k51
  have b51 := F51.binds (ps := ["self", "rights"]) fun _ _ _ _ _ _ us hl => match us, hl with | [_, _], _ => rfl
  have F52 := fun_mk (st := sTakeF) l52 c52 k52
  have b52 := F52.binds (ps := ["self", "indent", "rights"]) fun _ _ _ _ _ _ us hl => match us, hl with | [_, _, _], _ => rfl
  have F53 := fun_mk (st := sTakeW) l53 c53 k53
  have b53 := F53.binds (ps := ["self", "low", "high"]) fun _ _ _ _ _ _ us hl => match us, hl with | [_, _, _], _ => rfl
  have F54 := fun_mk (st := sTakeN) l54 c54 k54
  have b54 := F54.binds (ps := ["self", "wished", "barred", "is_free"]) fun _ _ _ _ _ _ us hl => match us, hl with | [_, _, _, _], _ => rfl
  have F55 := fun_mk (st := sTakeE) l55 c55 k55
  have b55 := F55.binds (ps := ["self"]) fun _ _ _ _ _ _ us hl => match us, hl with | [_], _ => rfl
  have F56 := fun_mk (st := sTakeI) l56 c56 k56
  have b56 := F56.binds (ps := ["self", "is_right", "instead"]) fun _ _ _ _ _ _ us hl => match us, hl with | [_, _, _], _ => rfl
  have eR' := vals_of (eq_of_beq eR)
  have eZ : its.size ≤ sizeLine := by
    have := congrArg List.length (eq_of_beq eR)
    rw [List.length_map, List.length_map, Array.length_toList] at this
    rw [this, sizeLine_eq]
    decide
  have eQ' := vals_of (eq_of_beq eQ)
  have eZQ : itq.size ≤ sizeLine := by
    have := congrArg List.length (eq_of_beq eQ)
    rw [List.length_map, List.length_map, Array.length_toList] at this
    rw [this, sizeLine_eq]
    decide
  have TP : MgP K mg f1 := { whl := PySem.W.mg_of X G a1, kwhl := k1, lett := ⟨_, PySem.W.mg_of X G vL⟩, digt := ⟨_, PySem.W.mg_of X G vD⟩, resv := ⟨aR, PySem.W.mg_of X G vR, fun H => .inr ⟨_, its, nR, lR, rfl, rfl, eZ, eR'⟩⟩, msig := ⟨_, PySem.W.mg_of X G vS⟩, isi := PySem.W.mg_none_of X G z_isinstance, len := PySem.W.mg_none_of X G z_len, str := PySem.W.mg_none_of X G z_str, int := PySem.W.mg_none_of X G z_int, bol := PySem.W.mg_none_of X G z_bool, tpl := PySem.W.mg_none_of X G z_tuple, all := PySem.W.mg_none_of X G z_all, set := PySem.W.mg_none_of X G z_set }
  have TK : MgK K mg f1 f2 f3 f4 f5 f6 f7 f9 f10 f11 := { TP with win := PySem.W.mg_of X G a2, kwin := k2, tof := PySem.W.mg_of X G a3, ktof := k3, tin := PySem.W.mg_of X G a4, ktin := k4, dbl := PySem.W.mg_of X G a5, kdbl := k5, nme := PySem.W.mg_of X G a6, knme := k6, pln := PySem.W.mg_of X G a7, kpln := k7, fm := PySem.W.mg_of X G a9, kfm := k9, fl := PySem.W.mg_of X G a10, kfl := k10, wc := PySem.W.mg_of X G a11, kwc := k11, mit := ⟨_, PySem.W.mg_of X G vI⟩, mfi := ⟨_, PySem.W.mg_of X G vF⟩, sum := PySem.W.mg_none_of X G z_sum }
  have TR : MgR K mg f8 f8 BK := ⟨PySem.W.mg_of X G a8, k8, PySem.W.mg_of X G aBK, kBK, xBK, sBBK, tBK, ⟨_, PySem.W.mg_of X G vP⟩, ⟨_, PySem.W.mg_of X G vW⟩⟩
  have TD : Fk K f1 f2 f3 f4 f5 f6 f7 f9 f10 f11 _ _ _ _ _ _ _ _ _ _ := ⟨F1, b1, F2, b2, F3, b3, F4, b4, F5, b5, F6, b6, F7, b7, F9, b9, F10, b10, F11, b11⟩
  have TS : MgS K mg f24 f25 := ⟨PySem.W.mg_none_of X G z_int, PySem.W.mg_none_of X G z_len, PySem.W.mg_of X G a24, k24, PySem.W.mg_of X G a25, k25⟩
  have TN : MgN K mg f24 f25 f26 f29 := { TS with pk := PySem.W.mg_of X G a26, kpk := k26, wd := PySem.W.mg_of X G a29, kwd := k29, rng := PySem.W.mg_none_of X G z_range, str := PySem.W.mg_none_of X G z_str }
  have TJ : MgJ K mg f38 f38 f38 f38 f38 := ⟨PySem.W.mg_of X G a38, k38, PySem.W.mg_none_of X G z_sum⟩
  have TLm : MgL K mg f27 f31 f32 f39 f30 f38 := ⟨PySem.W.mg_of X G a27, k27, PySem.W.mg_of X G a31, k31, PySem.W.mg_of X G a32, k32, PySem.W.mg_of X G a39, k39, PySem.W.mg_of X G a30, k30, PySem.W.mg_of X G a38, k38, PySem.W.mg_none_of X G z_list, PySem.W.mg_none_of X G z_tuple, PySem.W.mg_none_of X G z_isinstance, PySem.W.mg_none_of X G z_str, PySem.W.mg_none_of X G z_min, PySem.W.mg_none_of X G z_range, PySem.W.mg_none_of X G z_len⟩
  have TM : Mg mg := ⟨PySem.W.mg_none_of X G z_len, _, PySem.W.mg_of X G vX⟩
  have TLt : MgLt K mg f14 := { TM with te := PySem.W.mg_of X G a14, kte := k14, el := ⟨_, PySem.W.mg_of X G vN⟩ }
  have TC : MgC K mg CE E := ⟨PySem.W.mg_of X G aCE, ⟨rd, gE, fE⟩, ⟨⟨_, _, _, _, _, _, _, _, _, _, _, _, _, _, _, xL, xR⟩, sa, sBE, tyE, kE⟩, nl, nc⟩
  have TT : MgT K mg CE E f47 f14 f13 := { TC, TLt with mC := PySem.W.mg_of X G aE, iC := a47, tI := tInit, lt := PySem.W.mg_of X G a13, klt := k13, isi := PySem.W.mg_none_of X G z_isinstance, str := PySem.W.mg_none_of X G z_str, enu := PySem.W.mg_none_of X G z_enumerate, et := ⟨_, PySem.W.mg_of X G vT⟩ }
  have TG : MgG mg := ⟨PySem.W.mg_none_of X G z_len, PySem.W.mg_none_of X G z_enumerate⟩
  have TBd : MgB K mg E := ⟨PySem.W.mg_of X G aE, PySem.W.mg_none_of X G z_isinstance, ⟨gtE, ggE, sBE, hdE, clE, spO, tkO, mrE⟩, ⟨gtE, ggE, sBE, hdE⟩, nl, nc, kit_self⟩
  have TCu : MgCu K mg C CE E f47 f49 f50 f51 f52 f53 f54 f55 f56 := { cl := ⟨pgC, hdCu, poC, saC⟩, nT := n1, nC := n2, nA := n3, nO := n4, mTI := ⟨a56, fn56, k56⟩, mTk := ⟨a51, fn51, k51⟩, mTF := ⟨a52, fn52, k52⟩, mB := ⟨a49, fn49, k49⟩, mT := ⟨a50, fn50, k50⟩, min := PySem.W.mg_none_of X G z_min, len := PySem.W.mg_none_of X G z_len, str := PySem.W.mg_none_of X G z_str, int := PySem.W.mg_none_of X G z_int, cx := TC, mE := PySem.W.mg_of X G aE, iE := a47, tI := tInit, et := ⟨_, PySem.W.mg_of X G vT⟩ }
  have TWt : MgWt K mg f15 := ⟨PySem.W.mg_none_of X G z_len, PySem.W.mg_none_of X G z_all, PySem.W.mg_none_of X G z_int, PySem.W.mg_none_of X G z_str, ⟨_, PySem.W.mg_of X G vD⟩, ⟨_, PySem.W.mg_of X G vG⟩, PySem.W.mg_of X G a15, k15⟩
  have TRd : MgRd K mg C f53 f54 f19 f20 f11 := { pl := ⟨aQ, PySem.W.mg_of X G vQ, fun H => .inr ⟨_, itq, nQ, lQ, rfl, rfl, eZQ, eQ'⟩⟩, mit := ⟨_, PySem.W.mg_of X G vI⟩, mfi := ⟨_, PySem.W.mg_of X G vF⟩, rk := PySem.W.mg_of X G a19, krk := k19, rf := PySem.W.mg_of X G a20, krf := k20, wc := PySem.W.mg_of X G a11, kwc := k11, mTW := ⟨a53, fn53, k53⟩, mTN := ⟨a54, fn54, k54⟩, tpl := PySem.W.mg_none_of X G z_tuple }
  have TKo : MgKo K mg C f48 f18 f12 f55 f52 := { mkC := ⟨mkC, a48, fn48, kC⟩, mC := PySem.W.mg_of X G aC, rd := PySem.W.mg_of X G a18, krd := k18, to := PySem.W.mg_of X G a12, kto := k12, mE := ⟨a55, fn55, k55⟩, mw := ⟨_, PySem.W.mg_of X G vW⟩, md := ⟨_, PySem.W.mg_of X G vP⟩, el := ⟨_, PySem.W.mg_of X G vN⟩ }
  have TTx : MgTx K mg f17 f33 f7 := ⟨PySem.W.mg_of X G a17, k17, PySem.W.mg_of X G a33, k33, PySem.W.mg_of X G a7, k7, PySem.W.mg_none_of X G z_isinstance, PySem.W.mg_none_of X G z_str⟩
  have TSm : MgSm K mg f34 := ⟨PySem.W.mg_of X G a34, k34⟩
  have TCl : MgClo mg := ⟨PySem.W.mg_none_of X G z_len⟩
  have TSt : MgStp K mg f41 f29 := ⟨PySem.W.mg_none_of X G z_len, PySem.W.mg_none_of X G z_int, PySem.W.mg_of X G a41, k41, PySem.W.mg_of X G a29, k29⟩
  have TFw : MgFiW K mg f40 := ⟨PySem.W.mg_none_of X G z_enumerate, PySem.W.mg_of X G a40, k40⟩
  have TNo : MgNoi K mg f26 := ⟨PySem.W.mg_none_of X G z_len, PySem.W.mg_none_of X G z_int, PySem.W.mg_of X G a26, k26⟩
  have TBn : MgBn K mg f25 f26 := ⟨PySem.W.mg_none_of X G z_len, PySem.W.mg_of X G a25, k25, PySem.W.mg_of X G a26, k26⟩
  have TNe : MgNe K mg f26 := ⟨PySem.W.mg_none_of X G z_str, PySem.W.mg_none_of X G z_range, PySem.W.mg_of X G a26, k26⟩
  have TRR : MgRR K mg CE E f34 f42 f37 f28 f21 f8 f38 f35 f33 := ⟨PySem.W.mg_of X G a34, k34, PySem.W.mg_of X G a42, k42, PySem.W.mg_of X G a37, k37, PySem.W.mg_of X G a28, k28, PySem.W.mg_of X G a21, k21, PySem.W.mg_of X G a8, k8, PySem.W.mg_of X G a38, k38, PySem.W.mg_of X G a35, k35, PySem.W.mg_of X G a33, k33, PySem.W.mg_of X G aCE, exm_of sE iE tE sEE⟩
  have TW : MgW K mg CE E BK f23 f32 f39 f26 f31 f33 f22 f21 f36 f34 f43 f44 f45 f37 f28 := ⟨PySem.W.mg_of X G a23, k23, PySem.W.mg_of X G a32, k32, PySem.W.mg_of X G a39, k39, PySem.W.mg_of X G a26, k26, PySem.W.mg_of X G a31, k31, PySem.W.mg_of X G a33, k33, PySem.W.mg_of X G a22, k22, PySem.W.mg_of X G a21, k21, PySem.W.mg_of X G a36, k36, PySem.W.mg_of X G a34, k34, PySem.W.mg_of X G a43, k43, PySem.W.mg_of X G a44, k44, PySem.W.mg_of X G a45, k45, PySem.W.mg_of X G a37, k37, PySem.W.mg_of X G a28, k28, PySem.W.mg_of X G aCE, PySem.W.mg_of X G aBK, exm_of sE iE tE sEE, exm_of sE iE tE sEBK, ⟨gBK, ggBK, sBBK, hdBK, clBK, spO, tkO, mrBK⟩, PySem.W.mg_none_of X G z_isinstance, PySem.W.mg_none_of X G z_range, PySem.W.mg_none_of X G z_len, PySem.W.mg_none_of X G z_min⟩
  have ma := PySem.W.mg_none_of X G z_abs
  refine ⟨PySem.W.fnOf "law" "law" (defArgs sLaw) (defBody sLaw) (defScope sLaw) .none kV46 dc46 pm46 an46 (.ref cL) ct46, [(cR, PTR), (cL, PTL)], spLaw K PTR PTL, fun p hp => ?_, fun p hp => ?_, fun p hp => ?_, fun s u => .of_eq rfl, fun H a ns hl _ hp hS => ?_, fun base KB GB hTB => ?_⟩
  · rcases List.mem_cons.mp hp with rfl | hp
    · exact hTR
    · rw [List.mem_singleton.mp hp]
      exact hTL
  · rcases List.mem_cons.mp hp with rfl | hp
    · exact npR
    · rw [List.mem_singleton.mp hp]
      exact npL
  · rcases List.mem_cons.mp hp with rfl | hp
    · exact PySem.W.codeHd_of_K X hdrR
    · rw [List.mem_singleton.mp hp]
      exact PySem.W.codeHd_of_K X hdrL
  · exact ⟨a, ns, rfl, hS, hl, hp _ (List.mem_cons_self ..), hp _ (List.mem_cons_of_mem _ (List.mem_cons_self ..)), fun _ => rfl⟩
  · have kKT : KBinds K (PySem.W.fnOf "kind_text" "kind_text" (defArgs sKT) (defBody sKT) (defScope sKT) .none kV22 dc22 pm22 an22 cd22 ct22) ["kind"] ["kind"] (fun us ws => us ++ ws) (fun us ws => us ++ ws) :=
      ⟨fun s us ws _ hl => match us, ws, hl with | [], [_], _ => .of_eq rfl | [_], [], _ => .of_eq rfl, fun r1 r2 => paired_app r1 r2⟩
    have kKO : KBinds K (PySem.W.fnOf "kind_of" "kind_of" (defArgs sKO) (defBody sKO) (defScope sKO) .none kV21 dc21 pm21 an21 cd21 ct21) ["text"] ["text"] (fun us ws => us ++ ws) (fun us ws => us ++ ws) :=
      ⟨fun s us ws _ hl => match us, ws, hl with | [], [_], _ => .of_eq rfl | [_], [], _ => .of_eq rfl, fun r1 r2 => paired_app r1 r2⟩
    have GD := ok_drw (P := l.prog) (w := w) (base := base) F25 TS F24 b24
    have GP := ok_pck (P := l.prog) (w := w) (base := base) F26 TS F24 b24 F25 b25
    have GW := ok_wds (P := l.prog) (w := w) (base := base) (mg := mg) F29
    have GN := ok_nam (P := l.prog) (w := w) (base := base) F30 TN F24 b24 F25 b25 F26 b26 F29 b29
    have GS := ok_shf (P := l.prog) (w := w) (base := base) F27 TS TLm F24 b24 F25 b25
    have GB := ok_tab (fW := f1) (fP := f1) (P := l.prog) (w := w) (base := base) F31 TS TLm GD b25 GN b30
    have GDN := ok_nmd (P := l.prog) (w := w) (base := base) F32 TLm b32 13
    have GC := fun n => ok_cbw (P := l.prog) (w := w) (base := base) TJ F38 b38 n
    have GK := ok_knd (P := l.prog) (w := w) (base := base) F39 TN TLm b39 GD b25 GP b26 GS b27 GC b38 4
    have GKd := ok_kd (P := l.prog) (w := w) (base := base) TD TK TR F8
    have GPl := ok_pl (P := l.prog) (w := w) (base := base) F7 TP
    have GNm := ok_nm (P := l.prog) (w := w) (base := base) F6 TP
    have GWc : FnOk l.prog w K mg base CX0 5 f11 _ ["kind"] (fun vs H Q E => ∃ n, n ≤ 4 ∧ spWc n vs H Q E) := fn_or fun n hn => (ok_wc (P := l.prog) (w := w) (base := base) TD TK n).mono (by omega)
    have GTx := ok_tx (P := l.prog) (w := w) (base := base) F17 TTx b17 GPl b7 4
    have GLx := ok_ltx (P := l.prog) (w := w) (base := base) F33 TTx b33 4
    have GKT := ok_kt (P := l.prog) (w := w) (base := base) F22 TTx TR GKd b8 GTx b17
    have GGT := ok_GT (P := l.prog) (w := w) (base := base) F34 TG
    have GTO := ok_TO (P := l.prog) (w := w) (base := base) F12 TT F47 b47 F14 b14 F13 b13
    have GBd := ok_bad (P := l.prog) (w := w) (base := base) F37 TBd
    have GCI := ok_CI (P := l.prog) (w := w) (base := base) F48 TCu
    have GTI := ok_TI (P := l.prog) (w := w) (base := base) F56 TCu F47 b47
    have GBg := ok_Beg (P := l.prog) (w := w) (base := base) F49 TCu
    have GTl := ok_Tel (P := l.prog) (w := w) (base := base) F50 TCu
    have GTk := ok_Take (P := l.prog) (w := w) (base := base) TCu GTI b56 F51
    have GTf := ok_TakeF (P := l.prog) (w := w) (base := base) TCu GTI b56 F52 GBg b49
    have GTe := ok_TakeE (P := l.prog) (w := w) (base := base) TCu GTI b56 F55 GTl b50
    have GIw := ok_iwt (P := l.prog) (w := w) (base := base) F15 TWt
    have GFr := ok_fre (P := l.prog) (w := w) (base := base) (mg := mg) F16
    have GTw := ok_TakeW (P := l.prog) (w := w) (base := base) TCu GTI b56 F53 TWt GIw b15
    have GTn := ok_TakeN (P := l.prog) (w := w) (base := base) TCu GTI b56 F54 (PySem.W.mg_of X G a6) k6 GNm b6 (PySem.W.mg_of X G a16) k16 GFr b16
    have GRk := ok_rk (P := l.prog) (w := w) (base := base) TCu TRd GTk b51 GTw b53 GTn b54 GWc b11 F19 b19 F20 b20 4 (by decide)
    have GRd := ok_rdk (P := l.prog) (w := w) (base := base) F18 TRd TKo GRk b19
    have GKO := ok_ko (P := l.prog) (w := w) (base := base) TCu TRd TKo GTk b51 F21 GBg b49 GTf b52 GTe b55 GRd b18 GTO b12 GCI b48
    have GSm := ok_same (P := l.prog) (w := w) (base := base) F35 TSm GGT b34
    have GCl := ok_clo (P := l.prog) (w := w) (base := base) F41 TCl
    have GSt := ok_stp (P := l.prog) (w := w) (base := base) F40 TSt GCl b41 GW b29
    have GFw := ok_fiw (P := l.prog) (w := w) (base := base) F42 TFw GSt b40
    have GNo := ok_noi (P := l.prog) (w := w) (base := base) F36 TNo GP b26
    have GBn := ok_bnt (P := l.prog) (w := w) (base := base) F43 TBn GD b25 GP b26
    have GNe := ok_nea (P := l.prog) (w := w) (base := base) F44 TNe GP b26
    have GRR := ok_rr (P := l.prog) (w := w) (base := base) l45 c45 l28 c28 (Binds.all fun us hl => match us, hl with | [_], _ => rfl) TRR (hTB _ (List.mem_cons_self ..)) hne GGT b34 GFw b42 GBd b37 GKO b21 kKO GKd b8 (GC 4) b38 GSm b35 GLx b33
    exact ok_law (P := l.prog) (w := w) (base := base) l46 c46 l28 c28 (Binds.all fun us hl => match us, hl with | [_], _ => rfl) TW (hTB _ (List.mem_cons_of_mem _ (List.mem_cons_self ..))) hne (ok_beg F23 ma) b23 GDN b32 GK b39 GP b26 GB b31 GLx b33 GKT b22 kKT GKO b21 GNo b36 GGT b34 GBn b43 GNe b44 GRR b45 GBd b37
end K3

open PySem PySem.W PyProof.Rows
set_option Elab.async false
set_option pp.maxSteps 700
set_option maxRecDepth 100000 in
set_option maxHeartbeats 0 in
theorem PySem.Challenge.cw_labelclocks_k03_texts_of_kinds_both_ways_holds : PySem.Challenge.rw_labelclocks_k03_texts_of_kinds_both_ways.Holds := by
  w_on; o_law; k_head; (case hw => w_witness2)
  k_fill
  refine LamX.walk_ofTs (l := PySem.Challenge.rw_labelclocks_k03_texts_of_kinds_both_ways) (n := 63) (k := 19) (x := "script") (CX := fun _ => L2.CX0) rfl (by decide) rfl ⟨rfl, by decide, by decide⟩ (fun w h Y => PySem.W.km_in_of Y) ?F (fun _ _ _ _ _ z => z)
  case F =>
    intro w mg fa h Y KX G hmg
    have hT8 := PySem.W.km_tabs_of Y
    refine' K3.all_mk KX G hmg ?a1 ?l1 ?c1 ?k1 ?a2 ?l2 ?c2 ?k2 ?a3 ?l3 ?c3 ?k3 ?a4 ?l4 ?c4 ?k4 ?a5 ?l5 ?c5 ?k5 ?a6 ?l6 ?c6 ?k6 ?a7 ?l7 ?c7 ?k7 ?a8 ?l8 ?c8 ?k8 ?a9 ?l9 ?c9 ?k9 ?a10 ?l10 ?c10 ?k10 ?a11 ?l11 ?c11 ?k11 ?a12 ?l12 ?c12 ?k12 ?a13 ?l13 ?c13 ?k13 ?a14 ?l14 ?c14 ?k14 ?a15 ?l15 ?c15 ?k15 ?a16 ?l16 ?c16 ?k16 ?a17 ?l17 ?c17 ?k17 ?a18 ?l18 ?c18 ?k18 ?a19 ?l19 ?c19 ?k19 ?a20 ?l20 ?c20 ?k20 ?a21 ?l21 ?c21 ?k21 ?a22 ?l22 ?c22 ?k22 ?a23 ?l23 ?c23 ?k23 ?a24 ?l24 ?c24 ?k24 ?a25 ?l25 ?c25 ?k25 ?a26 ?l26 ?c26 ?k26 ?a27 ?l27 ?c27 ?k27 ?a28 ?l28 ?c28 ?k28 ?a29 ?l29 ?c29 ?k29 ?a30 ?l30 ?c30 ?k30 ?a31 ?l31 ?c31 ?k31 ?a32 ?l32 ?c32 ?k32 ?a33 ?l33 ?c33 ?k33 ?a34 ?l34 ?c34 ?k34 ?a35 ?l35 ?c35 ?k35 ?a36 ?l36 ?c36 ?k36 ?a37 ?l37 ?c37 ?k37 ?a38 ?l38 ?c38 ?k38 ?a39 ?l39 ?c39 ?k39 ?a40 ?l40 ?c40 ?k40 ?a41 ?l41 ?c41 ?k41 ?a42 ?l42 ?c42 ?k42 ?a43 ?l43 ?c43 ?k43 ?a44 ?l44 ?c44 ?k44 ?a45 ?l45 ?c45 ?k45 ?a46 ?l46 ?c46 ?k46 ?a47 ?l47 ?c47 ?k47 ?a48 ?l48 ?c48 ?k48 ?a49 ?l49 ?c49 ?k49 ?a50 ?l50 ?c50 ?k50 ?a51 ?l51 ?c51 ?k51 ?a52 ?l52 ?c52 ?k52 ?a53 ?l53 ?c53 ?k53 ?a54 ?l54 ?c54 ?k54 ?a55 ?l55 ?c55 ?k55 ?a56 ?l56 ?c56 ?k56 ?z_len ?z_isinstance ?z_str ?z_abs ?z_int ?z_range ?z_min ?z_list ?z_bool ?z_tuple ?z_all ?z_set ?z_sum ?z_enumerate ?vL ?eL ?vD ?eD ?vS ?eS ?vI ?eI ?vF ?eF ?vP ?eP ?vW ?eW ?vX ?eX ?vN ?eN ?vT ?eT ?vG ?eG ?vR ?lR ?eR ?vQ ?lQ ?eQ ?aCE ?sE ?iE ?tE ?rd ?gE ?fE ?spO ?tkO ?aC ?kC ?pgC ?hdCu ?poC ?saC ?mkC ?n1 ?n2 ?n3 ?n4 ?xL ?xR ?sa ?nl ?nc ?tInit ?fn48 ?fn49 ?fn50 ?fn51 ?fn52 ?fn53 ?fn54 ?fn55 ?fn56 ?aE ?kE ?sBE ?tyE ?sEE ?gtE ?ggE ?hdE ?clE ?mrE ?aBK ?kBK ?xBK ?sBBK ?tBK ?sEBK ?gBK ?ggBK ?hdBK ?clBK ?mrBK ?hdrR ?npR ?hTR ?hdrL ?npL ?hTL ?hne
    (case aCE => k_is)
    (case aC => k_is)
    (case aE => k_is)
    (case aBK => k_is)
    (case a1 => k_is)
    (case l1 => k_is)
    (case c1 => k_is)
    (case k1 => k_is)
    (case a2 => k_is)
    (case l2 => k_is)
    (case c2 => k_is)
    (case k2 => k_is)
    (case a3 => k_is)
    (case l3 => k_is)
    (case c3 => k_is)
    (case k3 => k_is)
    (case a4 => k_is)
    (case l4 => k_is)
    (case c4 => k_is)
    (case k4 => k_is)
    (case a5 => k_is)
    (case l5 => k_is)
    (case c5 => k_is)
    (case k5 => k_is)
    (case a6 => k_is)
    (case l6 => k_is)
    (case c6 => k_is)
    (case k6 => k_is)
    (case a7 => k_is)
    (case l7 => k_is)
    (case c7 => k_is)
    (case k7 => k_is)
    (case a8 => k_is)
    (case l8 => k_is)
    (case c8 => k_is)
    (case k8 => k_is)
    (case a9 => k_is)
    (case l9 => k_is)
    (case c9 => k_is)
    (case k9 => k_is)
    (case a10 => k_is)
    (case l10 => k_is)
    (case c10 => k_is)
    (case k10 => k_is)
    (case a11 => k_is)
    (case l11 => k_is)
    (case c11 => k_is)
    (case k11 => k_is)
    (case a12 => k_is)
    (case l12 => k_is)
    (case c12 => k_is)
    (case k12 => k_is)
    (case a13 => k_is)
    (case l13 => k_is)
    (case c13 => k_is)
    (case k13 => k_is)
    (case a14 => k_is)
    (case l14 => k_is)
    (case c14 => k_is)
    (case k14 => k_is)
    (case a15 => k_is)
    (case l15 => k_is)
    (case c15 => k_is)
    (case k15 => k_is)
    (case a16 => k_is)
    (case l16 => k_is)
    (case c16 => k_is)
    (case k16 => k_is)
    (case a17 => k_is)
    (case l17 => k_is)
    (case c17 => k_is)
    (case k17 => k_is)
    (case a18 => k_is)
    (case l18 => k_is)
    (case c18 => k_is)
    (case k18 => k_is)
    (case a19 => k_is)
    (case l19 => k_is)
    (case c19 => k_is)
    (case k19 => k_is)
    (case a20 => k_is)
    (case l20 => k_is)
    (case c20 => k_is)
    (case k20 => k_is)
    (case a21 => k_is)
    (case l21 => k_is)
    (case c21 => k_is)
    (case k21 => k_is)
    (case a22 => k_is)
    (case l22 => k_is)
    (case c22 => k_is)
    (case k22 => k_is)
    (case a23 => k_is)
    (case l23 => k_is)
    (case c23 => k_is)
    (case k23 => k_is)
    (case a24 => k_is)
    (case l24 => k_is)
    (case c24 => k_is)
    (case k24 => k_is)
    (case a25 => k_is)
    (case l25 => k_is)
    (case c25 => k_is)
    (case k25 => k_is)
    (case a26 => k_is)
    (case l26 => k_is)
    (case c26 => k_is)
    (case k26 => k_is)
    (case a27 => k_is)
    (case l27 => k_is)
    (case c27 => k_is)
    (case k27 => k_is)
    (case a28 => k_is)
    (case l28 => k_is)
    (case c28 => k_is)
    (case k28 => k_is)
    (case a29 => k_is)
    (case l29 => k_is)
    (case c29 => k_is)
    (case k29 => k_is)
    (case a30 => k_is)
    (case l30 => k_is)
    (case c30 => k_is)
    (case k30 => k_is)
    (case a31 => k_is)
    (case l31 => k_is)
    (case c31 => k_is)
    (case k31 => k_is)
    (case a32 => k_is)
    (case l32 => k_is)
    (case c32 => k_is)
    (case k32 => k_is)
    (case a33 => k_is)
    (case l33 => k_is)
    (case c33 => k_is)
    (case k33 => k_is)
    (case a34 => k_is)
    (case l34 => k_is)
    (case c34 => k_is)
    (case k34 => k_is)
    (case a35 => k_is)
    (case l35 => k_is)
    (case c35 => k_is)
    (case k35 => k_is)
    (case a36 => k_is)
    (case l36 => k_is)
    (case c36 => k_is)
    (case k36 => k_is)
    (case a37 => k_is)
    (case l37 => k_is)
    (case c37 => k_is)
    (case k37 => k_is)
    (case a38 => k_is)
    (case l38 => k_is)
    (case c38 => k_is)
    (case k38 => k_is)
    (case a39 => k_is)
    (case l39 => k_is)
    (case c39 => k_is)
    (case k39 => k_is)
    (case a40 => k_is)
    (case l40 => k_is)
    (case c40 => k_is)
    (case k40 => k_is)
    (case a41 => k_is)
    (case l41 => k_is)
    (case c41 => k_is)
    (case k41 => k_is)
    (case a42 => k_is)
    (case l42 => k_is)
    (case c42 => k_is)
    (case k42 => k_is)
    (case a43 => k_is)
    (case l43 => k_is)
    (case c43 => k_is)
    (case k43 => k_is)
    (case a44 => k_is)
    (case l44 => k_is)
    (case c44 => k_is)
    (case k44 => k_is)
    (case a45 => k_is)
    (case l45 => k_is)
    (case c45 => k_is)
    (case k45 => k_is)
    (case a46 => k_is)
    (case l46 => k_is)
    (case c46 => k_is)
    (case k46 => k_is)
    (case a47 => k_is)
    (case l47 => k_is)
    (case c47 => k_is)
    (case k47 => k_is)
    (case a48 => k_is)
    (case l48 => k_is)
    (case c48 => k_is)
    (case k48 => k_is)
    (case a49 => k_is)
    (case l49 => k_is)
    (case c49 => k_is)
    (case k49 => k_is)
    (case a50 => k_is)
    (case l50 => k_is)
    (case c50 => k_is)
    (case k50 => k_is)
    (case a51 => k_is)
    (case l51 => k_is)
    (case c51 => k_is)
    (case k51 => k_is)
    (case a52 => k_is)
    (case l52 => k_is)
    (case c52 => k_is)
    (case k52 => k_is)
    (case a53 => k_is)
    (case l53 => k_is)
    (case c53 => k_is)
    (case k53 => k_is)
    (case a54 => k_is)
    (case l54 => k_is)
    (case c54 => k_is)
    (case k54 => k_is)
    (case a55 => k_is)
    (case l55 => k_is)
    (case c55 => k_is)
    (case k55 => k_is)
    (case a56 => k_is)
    (case l56 => k_is)
    (case c56 => k_is)
    (case k56 => k_is)
    (case z_len => k_is)
    (case z_isinstance => k_is)
    (case z_str => k_is)
    (case z_abs => k_is)
    (case z_int => k_is)
    (case z_range => k_is)
    (case z_min => k_is)
    (case z_list => k_is)
    (case z_bool => k_is)
    (case z_tuple => k_is)
    (case z_all => k_is)
    (case z_set => k_is)
    (case z_sum => k_is)
    (case z_enumerate => k_is)
    (case vL => k_is)
    (case eL => decide +kernel)
    (case vD => k_is)
    (case eD => decide +kernel)
    (case vS => k_is)
    (case eS => decide +kernel)
    (case vI => k_is)
    (case eI => decide +kernel)
    (case vF => k_is)
    (case eF => decide +kernel)
    (case vP => k_is)
    (case eP => decide +kernel)
    (case vW => k_is)
    (case eW => decide +kernel)
    (case vX => k_is)
    (case eX => decide +kernel)
    (case vN => k_is)
    (case eN => decide +kernel)
    (case vT => k_is)
    (case eT => decide +kernel)
    (case vG => k_is)
    (case eG => decide +kernel)
    (case vR => k_is)
    (case lR => k_is)
    (case eR => decide +kernel)
    (case vQ => k_is)
    (case lQ => k_is)
    (case eQ => decide +kernel)
    (case sE => k_is)
    (case iE => k_is)
    (case tE => k_is)
    (case rd => k_is)
    (case gE => k_is)
    (case fE => k_is)
    (case spO => k_is)
    (case tkO => k_is)
    (case kC => k_is)
    (case pgC => k_is)
    (case hdCu => k_is)
    (case poC => k_is)
    (case saC => k_is)
    (case mkC => k_is)
    (case n1 => k_is)
    (case n2 => k_is)
    (case n3 => k_is)
    (case n4 => k_is)
    (case xL => k_is)
    (case xR => decide +kernel)
    (case sa => k_is)
    (case nl => k_is)
    (case nc => k_is)
    (case tInit => k_is)
    (case fn48 => k_is)
    (case fn49 => k_is)
    (case fn50 => k_is)
    (case fn51 => k_is)
    (case fn52 => k_is)
    (case fn53 => k_is)
    (case fn54 => k_is)
    (case fn55 => k_is)
    (case fn56 => k_is)
    (case kE => k_is)
    (case sBE => k_is)
    (case tyE => k_is)
    (case sEE => k_is)
    (case gtE => k_is)
    (case ggE => k_is)
    (case hdE => k_is)
    (case clE => k_is)
    (case mrE => k_is)
    (case kBK => k_is)
    (case xBK => k_exc)
    (case sBBK => k_is)
    (case tBK => k_is)
    (case sEBK => k_is)
    (case gBK => k_is)
    (case ggBK => k_is)
    (case hdBK => k_is)
    (case clBK => k_is)
    (case mrBK => k_is)
    (case hTR => exact hT8 _ (List.mem_cons_self ..))
    (case hTL => exact hT8 _ (List.mem_cons_of_mem _ (List.mem_cons_self ..)))
    (case hdrR => kernel_rfl)
    (case npR => kernel_rfl)
    (case hdrL => kernel_rfl)
    (case npL => kernel_rfl)
    (case hne => decide +kernel)

