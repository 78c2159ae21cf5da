import PyProof.Rows.All
import Wide.All
import OpenK.AllK
import Wide.FinOn
import HandS.ForMost
import HandS.Strs
import HandS.Zip
import HandS.IsInst
import HandS.WordsExc
import HandS.Style
import HandS.Lambda
import KE.KExcIs
import HandS.ExcIs
import PySem.Challenge.RW_labelclocks_k80_texts_of_labels_and_pass
import HandS.DeepEq
import HandS.Walk
import HandS.TupAny
import HandS.More
import HandS.Deep
import KE.IntTextLaws
import HandS.ReplaceList
import HandS.FStr
import HandS.Replace
import HandS.ExcOwn
import HandS.ExcInit
import HandS.ExcField
import HandS.ClsMeth
import HandS.ReplaceLit
import HandS.CallLocal
import HandS.EndTab
import KE.KNestM
import HandS.TupMul
set_option Elab.async false
set_option linter.all false
set_option pp.maxSteps 700
set_option maxRecDepth 100000
set_option maxHeartbeats 2000000
namespace K80
open PySem PySem.Spec PyProof.Rows L2
open TL (tl)
def top (i : Nat) : Stmt := PySem.Challenge.pw_labelclocks_k80_texts_of_labels_and_pass.main.body.getD i (.Pass ⟨0, 0, 0, 0⟩)
theorem ifT {c : Bool} {A B : Prop} (hc : c = true) (h : A) : if c = true then A else B := by
  rw [if_pos hc]
  exact h
theorem ifF {c : Bool} {A B : Prop} (hc : c = false) (h : B) : if c = true then A else B := by
  rw [hc, if_neg Bool.false_ne_true]
  exact h
theorem while_m {c : TT} {tb : TS} {D : Ends} {σ : L2.St} {H : Hp} (Pv : Nat → L2.St → Hp → Prop) (m : Nat) (h0 : Pv m σ H)
    (hs : ∀ n σ H, Pv n σ H → c σ H fun b H1 => if b = true then ∃ N : L2.St → Hp → Prop, (∀ σ' H', N σ' H' → ∃ m', m' < n ∧ Pv m' σ' H') ∧ tb { D with nx := N, ct := N, bk := D.nx } σ H1 else D.nx σ H1) : tWhile c tb D σ H :=
  ⟨Pv, ⟨m, h0⟩, hs⟩
theorem same_new {H : Hp} {p : Addr} {o : HO} (h : H p = none) : Same H (upd H p o) := fun b u e => by
  rw [upd_ne (ne_of_none e h)]
  exact e
theorem paired_app {α β : Type} {F : α → β → Prop} : ∀ {a : List α} {b : List β} {a' : List α} {b' : List β}, Paired F a b → Paired F a' b' → Paired F (a ++ a') (b ++ b')
  | _, _, _, _, .nil, q => q
  | _, _, _, _, .cons r t, q => .cons r (paired_app t q)
theorem paired_len {α β : Type} {F : α → β → Prop} {a : List α} {b : List β} (p : Paired F a b) : a.length = b.length := Paired.length p
section
variable {X : Cx} {o e : Expr} {to te : TE} {apos cpos : Pos}
theorem qApp (ho : PE X o to) (he : PE X e te) (hbase : attributeBase o "append" X.env (eval o X.env) = eval o X.env := by rfl)
    (hfew : ((backTo cpos (starEach (e :: []) X.env)).all (fun x => !x.1) && (backToKw cpos (keywordEach [] X.env)).all (fun x => x.1.isSome)
      && decide ((e :: ([] : List Expr)).length + ([] : List Keyword).length + (if ([] : List Keyword).isEmpty then 0 else 1) < 30)) = true := by rfl)
    (hline : (apos.endLine == cpos.line) = true := by rfl) (hs : starEach (e :: []) X.env = (false, eval e X.env) :: starEach [] X.env := by rfl) (hplain : (backTo cpos (starEach [] X.env)).any (·.1) = false := by rfl) :
    PE X (.Call (.Attribute o "append" apos) [e] [] cpos) (tBM X.K "list" rAppend to (tCons te tNil)) :=
  pe_bm PySem.F.plainAttrs_list PySem.F.slot_list_append PySem.F.type_list_append mt_append ho (pa_cons he pa_nil hs) hbase hfew hline hs hplain
end
theorem while_q {c : TT} {tb : TS} {D : Ends} {σ : L2.St} {H : Hp} (Pv : Nat → L2.St → Hp → Prop) (m : Nat) (Post : L2.St → Hp → Prop) (h0 : Pv m σ H)
    (hs : ∀ X : L2.St → Hp → Prop, (∀ σ H, Post σ H → X σ H) → ∀ n σ H, Pv n σ H → c σ H fun b H1 => if b = true then ∃ N : L2.St → Hp → Prop, (∀ σ' H', N σ' H' → ∃ m', m' < n ∧ Pv m' σ' H') ∧ tb { D with nx := N, ct := N, bk := D.nx } σ H1 else X σ H1)
    (hp : ∀ σ H, Post σ H → D.nx σ H) : tWhile c tb D σ H :=
  ⟨Pv, ⟨m, h0⟩, hs D.nx hp⟩
abbrev sBeg : Stmt := top 42
abbrev sMix : Stmt := top 43
abbrev sDrw : Stmt := top 44
abbrev sPck : Stmt := top 45
/-! ### the state of the draws -/
theorem k12 : ¬ (Sum.inr ("great" : Str) : Key) = Sum.inr ("cells" : Str) := by decide +kernel
theorem k13 : ¬ (Sum.inr ("great" : Str) : Key) = Sum.inr ("rest" : Str) := by decide +kernel
theorem k14 : ¬ (Sum.inr ("great" : Str) : Key) = Sum.inr ("turn" : Str) := by decide +kernel
theorem k23 : ¬ (Sum.inr ("cells" : Str) : Key) = Sum.inr ("rest" : Str) := by decide +kernel
theorem k24 : ¬ (Sum.inr ("cells" : Str) : Key) = Sum.inr ("turn" : Str) := by decide +kernel
theorem k34 : ¬ (Sum.inr ("rest" : Str) : Key) = Sum.inr ("turn" : Str) := by decide +kernel
def StKV (g c : Addr) (r t : Int) : List (Key × V) := [(Sum.inr ("great" : Str), V.ref g), (Sum.inr ("cells" : Str), V.ref c), (Sum.inr ("rest" : Str), V.int r), (Sum.inr ("turn" : Str), V.int t)]
section
variable {g c d : Addr} {r t : Int} {H : Hp}
theorem v_great : valV (StKV g c r t) (Sum.inr ("great" : Str)) = some (.ref g) := valV_pos rfl
theorem v_cells : valV (StKV g c r t) (Sum.inr ("cells" : Str)) = some (.ref c) := (valV_neg k12).trans (valV_pos rfl)
theorem v_rest : valV (StKV g c r t) (Sum.inr ("rest" : Str)) = some (.int r) := (valV_neg k13).trans ((valV_neg k23).trans (valV_pos rfl))
theorem v_turn : valV (StKV g c r t) (Sum.inr ("turn" : Str)) = some (.int t) := (valV_neg k14).trans ((valV_neg k24).trans ((valV_neg k34).trans (valV_pos rfl)))
theorem p_rest (x : Int) : putK (StKV g c r t) (Sum.inr ("rest" : Str)) (.int x) = StKV g c x t := by
  unfold putK
  rw [valV_any, v_rest, if_pos (show (some (V.int r)).isSome = true from rfl)]
  unfold StKV
  simp only [List.map_cons, List.map_nil, if_neg k13, if_neg k23, if_pos, if_neg (Ne.symm k34 : ¬ (Sum.inr ("turn" : Str) : Key) = Sum.inr ("rest" : Str))]
theorem p_turn (x : Int) : putK (StKV g c r t) (Sum.inr ("turn" : Str)) (.int x) = StKV g c r x := by
  unfold putK
  rw [valV_any, v_turn, if_pos (show (some (V.int t)).isSome = true from rfl)]
  unfold StKV
  simp only [List.map_cons, List.map_nil, if_neg k14, if_neg k24, if_neg k34, if_pos]
theorem g_great (h : H d = some (.dK (StKV g c r t))) : DGet H d (.str ("great" : Str)) (some (.ref g)) := by
  have e := DGet.k (k := Sum.inr ("great" : Str)) h
  rw [v_great] at e
  exact e
theorem g_cells (h : H d = some (.dK (StKV g c r t))) : DGet H d (.str ("cells" : Str)) (some (.ref c)) := by
  have e := DGet.k (k := Sum.inr ("cells" : Str)) h
  rw [v_cells] at e
  exact e
theorem g_rest (h : H d = some (.dK (StKV g c r t))) : DGet H d (.str ("rest" : Str)) (some (.int r)) := by
  have e := DGet.k (k := Sum.inr ("rest" : Str)) h
  rw [v_rest] at e
  exact e
theorem g_turn (h : H d = some (.dK (StKV g c r t))) : DGet H d (.str ("turn" : Str)) (some (.int t)) := by
  have e := DGet.k (k := Sum.inr ("turn" : Str)) h
  rw [v_turn] at e
  exact e
theorem s_rest (h : H d = some (.dK (StKV g c r t))) (x : Int) : DPut H d (.str ("rest" : Str)) (.int x) (upd H d (.dK (StKV g c x t))) := by
  have e := DPut.k (k := Sum.inr ("rest" : Str)) (v := .int x) h (by rw [sizeLine_eq]; show 4 < _; omega)
  rw [p_rest] at e
  exact e
theorem s_turn (h : H d = some (.dK (StKV g c r t))) (x : Int) : DPut H d (.str ("turn" : Str)) (.int x) (upd H d (.dK (StKV g c r x))) := by
  have e := DPut.k (k := Sum.inr ("turn" : Str)) (v := .int x) h (by rw [sizeLine_eq]; show 4 < _; omega)
  rw [p_turn] at e
  exact e
end
/-- the state at d: great at g, cells at c; at most n turns were made -/
structure StX (H : Hp) (d g c : Addr) (n : Nat) (r t : Int) (gs cs : List Int) : Prop where
  dk : H d = some (.dK (StKV g c r t))
  gl : H g = some (.lst (gs.map V.int))
  cl : H c = some (.lst (cs.map V.int))
  gc : g ≠ c
  r0 : 0 ≤ r
  g0 : ∀ x ∈ gs, 0 ≤ x
  t0 : 0 ≤ t
  tn : t ≤ n
  gn : gs.length ≤ 63
  cn : cs.length ≤ 63
def StA (H : Hp) (d g c : Addr) (n : Nat) : Prop := ∃ r t gs cs, StX H d g c n r t gs cs
theorem StX.dg {H : Hp} {d g c : Addr} {n : Nat} {r t : Int} {gs cs : List Int} (S : StX H d g c n r t gs cs) : d ≠ g := ne_of S.dk S.gl (by intro z; cases z)
theorem StX.dc {H : Hp} {d g c : Addr} {n : Nat} {r t : Int} {gs cs : List Int} (S : StX H d g c n r t gs cs) : d ≠ c := ne_of S.dk S.cl (by intro z; cases z)
theorem StX.keep {H H' : Hp} {d g c : Addr} {n : Nat} {r t : Int} {gs cs : List Int} (S : StX H d g c n r t gs cs) (k : Same H H') : StX H' d g c n r t gs cs :=
  ⟨k _ _ S.dk, k _ _ S.gl, k _ _ S.cl, S.gc, S.r0, S.g0, S.t0, S.tn, S.gn, S.cn⟩
theorem StA.keep {H H' : Hp} {d g c : Addr} {n : Nat} (S : StA H d g c n) (k : Same H H') : StA H' d g c n := by
  obtain ⟨r, t, gs, cs, S⟩ := S
  exact ⟨r, t, gs, cs, S.keep k⟩
theorem StA.mono {H : Hp} {d g c : Addr} {n m : Nat} (S : StA H d g c n) (h : n ≤ m) : StA H d g c m := by
  obtain ⟨r, t, gs, cs, S⟩ := S
  exact ⟨r, t, gs, cs, S.dk, S.gl, S.cl, S.gc, S.r0, S.g0, S.t0, by have := S.tn; omega, S.gn, S.cn⟩
/-- all but the state's dict and great stay -/
def Kp (d g : Addr) (H H' : Hp) : Prop := ∀ b o, H b = some o → b ≠ d → b ≠ g → H' b = some o
theorem Kp.of {d g : Addr} {H H' : Hp} (s : Same H H') : Kp d g H H' := fun b o e _ _ => s b o e
theorem Kp.refl {d g : Addr} (H : Hp) : Kp d g H H := fun _ _ e _ _ => e
theorem Kp.trans {d g : Addr} {H H1 H2 : Hp} (a : Kp d g H H1) (b : Kp d g H1 H2) : Kp d g H H2 := fun c o e h1 h2 => b c o (a c o e h1 h2) h1 h2
theorem Kp.put {d g : Addr} {H : Hp} {o : HO} : Kp d g H (upd H d o) := fun b u e h1 _ => by
  rw [upd_ne h1]
  exact e
theorem Kp.putg {d g : Addr} {H : Hp} {o : HO} : Kp d g H (upd H g o) := fun b u e _ h2 => by
  rw [upd_ne h2]
  exact e
theorem StX.rest {H : Hp} {d g c : Addr} {n : Nat} {r t : Int} {gs cs : List Int} (S : StX H d g c n r t gs cs) {x : Int} (hx : 0 ≤ x) : StX (upd H d (.dK (StKV g c x t))) d g c n x t gs cs :=
  ⟨upd_same, by rw [upd_ne S.dg.symm]; exact S.gl, by rw [upd_ne S.dc.symm]; exact S.cl, S.gc, hx, S.g0, S.t0, S.tn, S.gn, S.cn⟩
theorem StX.turn {H : Hp} {d g c : Addr} {n : Nat} {r t : Int} {gs cs : List Int} (S : StX H d g c n r t gs cs) : StX (upd H d (.dK (StKV g c r (t + 1)))) d g c (n + 1) r (t + 1) gs cs :=
  ⟨upd_same, by rw [upd_ne S.dg.symm]; exact S.gl, by rw [upd_ne S.dc.symm]; exact S.cl, S.gc, S.r0, S.g0, by have := S.t0; omega, by have := S.tn; omega, S.gn, S.cn⟩
theorem dpInts {K : PySem.W.Frag} {H : Hp} : ∀ gs : List Int, DpAll K H (gs.map V.int) (gs.map PyData.int)
  | [] => .nil
  | x :: r => .cons (.int x) (dpInts r)
theorem layInts : ∀ gs : List Int, PyData.canLayAll0 (gs.map PyData.int) = true
  | [] => rfl
  | x :: r => by
    show (true && PyData.canLayAll0 (r.map PyData.int)) = true
    rw [layInts r]
    rfl
theorem depInts : ∀ gs : List Int, PyData.depthAll (gs.map PyData.int) = 0
  | [] => rfl
  | x :: r => by
    show max 0 (PyData.depthAll (r.map PyData.int)) = 0
    rw [depInts r]
    rfl
theorem shInts (gs : List Int) : SeqAt.shaped (.list (gs.map PyData.int)) = true := by
  unfold SeqAt.shaped
  show (PyData.canLayAll0 (gs.map PyData.int) && decide (PyData.depthAll (gs.map PyData.int) + 1 ≤ 64)) = true
  rw [layInts, depInts]
  rfl
def spMix : Sp := fun vs H Q _ => ∃ (d g c : Addr) (n : Nat), vs = [.ref d] ∧ StA H d g c n ∧ n ≤ 1000000000 ∧ ∀ (v : Int) (H' : Hp), 0 ≤ v → StA H' d g c (n + 1) → Kp d g H H' → Q (.int v) H'
def spDrw : Sp := fun vs H Q _ => ∃ (d g c : Addr) (n : Nat) (room : Int), vs = [.ref d, .int room] ∧ StA H d g c n ∧ n ≤ 1000000000 ∧ 0 < room ∧ room < 1073741824 ∧
  ∀ (v : Int) (H' : Hp), 0 ≤ v → v < room → StA H' d g c (n + 1) → Kp d g H H' → Q (.int v) H'
def spPck : Sp := fun vs H Q _ => ∃ (d g c a : Addr) (n : Nat) (xs : List V), vs = [.ref d, .ref a] ∧ StA H d g c n ∧ n ≤ 1000000000 ∧ H a = some (.lst xs) ∧ a ≠ g ∧ xs ≠ [] ∧ xs.length ≤ 1000000 ∧
  ∀ (v : V) (H' : Hp), v ∈ xs → StA H' d g c (n + 1) → Kp d g H H' → Q v H'
structure MgS (K : PySem.W.Frag) (mg : Str → Option Value) (fM fD : Addr) : Prop where
  int : mg "int" = none
  len : mg "len" = none
  mx : mg "_law_mixed" = some (.ref fM)
  kmx : PySem.W.keepIn K (.ref fM) = true
  dr : mg "_law_draw" = some (.ref fD)
  kdr : PySem.W.keepIn K (.ref fD) = true
section
variable {P : Program} {w : World} {K : PySem.W.Frag} {mg : Str → Option Value} {base : Heap}
theorem scMix : FnScope ["state", "turn", "found", "prime", "blend", "cell"] ["state"] (defScope sMix) := ⟨rfl, rfl, rfl, by decide +kernel, rfl, by decide +kernel, by decide +kernel⟩
theorem ok_mix {f fM fD : Addr} {fd : FuncData} (F : Fun K "_law_mixed" "_law_mixed" sMix f fd) (T : MgS K mg fM fD) : FnOk P w K mg base CX0 1 f fd ["state"] spMix := by
  refine F.ok scMix (fun vs H Q E h => ?_) (fun cdv A outer s H vs Q E hr h => ?_)
  · obtain ⟨d, g, c, n, rfl, _⟩ := h
    rfl
  · obtain ⟨d, g, c, n, rfl, ⟨r, t, gs, cs, S⟩, hn, k⟩ := h
    have hu := hu_of hr
    refine ⟨_, pss_cons (ps_par (i := 1) (j := 2) (by rfl) scMix.nd rfl rfl (by decide) rfl rfl (pa_cons (pe_op op_add (pe_dget hu (pv 0) pe_str (fun _ _ => rfl)) pe_int) (pa_cons pe_int pa_nil)) (by rfl))
      (pss_cons (ps_dput hu (pv 0) pe_str (pv 1) rfl)
      (pss_cons (ps_for PassesOwn.never rfl (pi_list (pe_lst (pa_cons pe_int (pa_cons pe_int (pa_cons pe_int (pa_cons pe_int pa_nil)))))) (pg_name (i := 3) scMix.nd rfl (Or.inl rfl))
        (pss_cons (ps_set (i := 4) scMix.nd rfl (Or.inl rfl) (pe_op op_add (pe_op op_mul pe_int (pv 1)) (pe_op op_fdivN (pv 3) pe_int)))
        (pss_cons (ps_for PassesOwn.never rfl (pi_list (pe_dget hu (pv 0) pe_str (fun _ _ => rfl))) (pg_name (i := 5) scMix.nd rfl (Or.inl rfl))
          (pss_one (ps_set (i := 4) scMix.nd rfl (Or.inl rfl) (pe_op op_mod (pe_callTy call_int1 (by rfl) T.int (by decide +kernel) (pa_cons (pe_op op_add (pe_op op_add (pe_op op_mul (pv 4) pe_int) (pv 5)) (pv 1)) pa_nil)) (pv 3)))))
        (pss_one (ps_set (i := 2) scMix.nd rfl (Or.inl rfl) (pe_op op_add (pe_op op_mul (pv 2) pe_int) (pe_op op_mod (pe_callTy call_int1 (by rfl) T.int (by decide +kernel) (pa_cons (pe_op op_pow (pv 4) pe_int) pa_nil)) (pv 3))))))))
      (pss_one (ps_ret (pv 2))))), ?_⟩
    refine ⟨_, rfl, d, _, rfl, g_turn S.dk, _, _, rfl, rfl, ⟨_, _, rfl, ?_⟩⟩
    refine ⟨_, rfl, _, rfl, d, _, rfl, s_turn S.dk _, ?_⟩
    have S1 := S.turn
    have t0 := S.t0
    have tn := S.tn
    refine ⟨(by show 4 ≤ sizeLine; decide), fun l hl => ?_⟩
    have S2 := S1.keep (same_new (o := .lst [V.int 2147483629, V.int 2147483647, V.int 2147483563, V.int 2147483587]) hl)
    have kp : Kp d g H (upd (upd H d (.dK (StKV g c r (t + 1)))) l (.lst [V.int 2147483629, V.int 2147483647, V.int 2147483563, V.int 2147483587])) := Kp.put.trans (Kp.of (same_new hl))
    generalize hH1 : upd (upd H d (.dK (StKV g c r (t + 1)))) l (.lst [V.int 2147483629, V.int 2147483647, V.int 2147483563, V.int 2147483587]) = H1 at S2 kp
    have hl1 : H1 l = some (.lst [V.int 2147483629, V.int 2147483647, V.int 2147483563, V.int 2147483587]) := by rw [← hH1, upd_same]
    refine ⟨l, rfl, ⟨_, SqL.of (by first | exact upd_same | exact hl1)⟩, for_list (K := K) (a := l) (xs := [V.int 2147483629, V.int 2147483647, V.int 2147483563, V.int 2147483587])
      (fun i σ H' => ∃ (fd : Int) (pv bv cv : Option V), σ = [some (.ref d), some (.int (t + 1)), some (.int fd), pv, bv, cv] ∧ 0 ≤ fd ∧ H' = H1) ⟨0, none, none, none, rfl, Int.le_refl _, by first | rfl | exact hH1⟩ (fun i σ H' _ ⟨_, _, _, _, _, _, e⟩ => by rw [e]; exact SqL.of hl1) ?_ ?_⟩
    · rintro i x σ H' hi ⟨fd, pv, bv, cv, rfl, hfd, rfl⟩
      have hm := List.mem_of_getElem? hi
      obtain ⟨pr, rfl, hp0, hp1⟩ : ∃ pr : Int, x = .int pr ∧ 0 < pr ∧ pr < 2147483648 := by
        simp only [List.mem_cons, List.not_mem_nil, or_false] at hm
        rcases hm with rfl | rfl | rfl | rfl
        · exact ⟨_, rfl, by decide, by decide⟩
        · exact ⟨_, rfl, by decide, by decide⟩
        · exact ⟨_, rfl, by decide, by decide⟩
        · exact ⟨_, rfl, by decide, by decide⟩
      have hq : pr.fdiv 41 = pr / 41 := Int.fdiv_eq_ediv_of_nonneg _ (by decide)
      refine ⟨_, rfl, _, _, rfl, rfl, .inl ⟨by decide, by decide⟩, _, rfl, _, _, rfl, rfl, ⟨by decide, by decide⟩, _, _, rfl, rfl, ?_⟩
      refine ⟨_, rfl, d, _, rfl, g_cells S2.dk, c, rfl, ⟨_, SqL.of S2.cl⟩, for_list (K := K) (a := c) (xs := cs.map V.int)
        (fun i σ H'' => ∃ (bl : Int) (cv : Option V), σ = [some (.ref d), some (.int (t + 1)), some (.int fd), some (.int pr), some (.int bl), cv] ∧ -9000000000000000000 < bl ∧ bl < 9000000000000000000 ∧ H'' = H') ⟨_, cv, rfl, by omega, by omega, rfl⟩ (fun i σ H'' _ ⟨_, _, _, _, _, e⟩ => by rw [e]; exact SqL.of S2.cl) ?_ ?_⟩
      · rintro j y σ H'' hj ⟨bl, cv2, rfl, hb1, hb2, rfl⟩
        rw [List.getElem?_map] at hj
        obtain ⟨z, _, rfl⟩ := Option.map_eq_some_iff.mp hj
        refine ⟨_, rfl, _, _, rfl, rfl, .inr ⟨by decide, by decide⟩, _, rfl, _, _, rfl, rfl, _, rfl, _, _, rfl, rfl, .inl ⟨_, rfl, _, rfl, _, _, rfl, rfl, hp0, ?_⟩⟩
        refine ⟨_, _, rfl, ?_, ?_, rfl⟩
        · have := Int.emod_nonneg (bl * 48271 + z + (t + 1)) (Int.ne_of_gt hp0)
          omega
        · have := Int.emod_lt_of_pos (bl * 48271 + z + (t + 1)) hp0
          omega
      · rintro σ H'' ⟨bl, cv2, rfl, hb1, hb2, rfl⟩
        refine ⟨_, rfl, _, _, rfl, rfl, .inr ⟨by decide, by decide⟩, _, rfl, _, _, rfl, rfl, ⟨by decide, by decide, by omega⟩, .inl ⟨_, rfl, _, rfl, _, _, rfl, rfl, hp0, _, _, rfl, rfl, ?_⟩⟩
        refine ⟨_, _, _, _, rfl, ?_, rfl⟩
        have := Int.emod_nonneg (bl ^ (5 : Int).toNat) (Int.ne_of_gt hp0)
        omega
    · rintro σ H' ⟨fd, pv, bv, cv, rfl, hfd, rfl⟩
      refine ⟨_, rfl, k fd H' hfd ⟨_, _, _, _, S2⟩ kp⟩
end
/-- a statement, a word of one's own, the rest -/
def tMid (t u : TS) : TS := fun D σ H => ∃ M : L2.St → Hp → Prop, t { D with nx := M } σ H ∧ ∀ σ1 H1, M σ1 H1 → u D σ1 H1
section
variable {X : Cx} {o e : Expr} {to te : TE} {apos cpos : Pos}
theorem pss_mid {st : Stmt} {rest : List Stmt} {t u : TS} (h1 : PS X st t) (h2 : PSs X rest u) : PSs X (st :: rest) (tMid t u) := by
  constructor
  intro pins s σ H D I h
  obtain ⟨M, ha, hb⟩ := h
  refine wpAny_execs_cons (thn (h1.run pins s σ H { D with nx := M } I ha) ?_)
  intro f s1 q
  match f, q with
  | .next, ⟨σ1, H1, I1, q⟩ => exact h2.run pins s1 σ1 H1 D I1 (hb σ1 H1 q)
  | .ret v, q => exact q
  | .brk, q => exact q
  | .cont, q => exact q
theorem qPopAt (ho : PE X o to) (he : PE X e te) (hbase : attributeBase o "pop" X.env (eval o X.env) = eval o X.env := by rfl)
    (hfew : ((backTo cpos (starEach (e :: []) X.env)).all (fun x => !x.1) && (backToKw cpos (keywordEach [] X.env)).all (fun x => x.1.isSome)
      && decide ((e :: ([] : List Expr)).length + ([] : List Keyword).length + (if ([] : List Keyword).isEmpty then 0 else 1) < 30)) = true := by rfl)
    (hline : (apos.endLine == cpos.line) = true := by rfl) (hs : starEach (e :: []) X.env = (false, eval e X.env) :: starEach [] X.env := by rfl) (hplain : (backTo cpos (starEach [] X.env)).any (·.1) = false := by rfl) :
    PE X (.Call (.Attribute o "pop" apos) [e] [] cpos) (tBM X.K "list" rPopAt to (tCons te tNil)) :=
  pe_bm PySem.F.plainAttrs_list PySem.F.slot_list_pop PySem.F.type_list_pop mt_popAt ho (pa_cons he pa_nil hs) hbase hfew hline hs hplain
end
theorem StX.pop {H : Hp} {d g c : Addr} {n : Nat} {r t x : Int} {gs cs : List Int} (S : StX H d g c n r t (x :: gs) cs) : 0 ≤ x ∧ StX (upd (upd H g (.lst (gs.map V.int))) d (.dK (StKV g c x t))) d g c n x t gs cs := by
  have hx := S.g0 x (List.mem_cons_self ..)
  refine ⟨hx, upd_same, by rw [upd_ne S.dg.symm, upd_same], by rw [upd_ne S.dc.symm, upd_ne S.gc.symm]; exact S.cl, S.gc, hx, fun y hy => S.g0 y (List.mem_cons_of_mem _ hy), S.t0, S.tn, by have := S.gn; simp only [List.length_cons] at this; omega, S.cn⟩
section
variable {P : Program} {w : World} {K : PySem.W.Frag} {mg : Str → Option Value} {base : Heap}
theorem scDrw : FnScope ["state", "room", "found"] ["state", "room"] (defScope sDrw) := ⟨rfl, rfl, rfl, by decide +kernel, rfl, by decide +kernel, by decide +kernel⟩
theorem ok_drw {f fM fD : Addr} {fd fdM : FuncData} (F : Fun K "_law_draw" "_law_draw" sDrw f fd) (T : MgS K mg fM fD) (FM : Fun K "_law_mixed" "_law_mixed" sMix fM fdM) (bM : L2.Binds K fdM ["state"] []) : FnOk P w K mg base CX0 2 f fd ["state", "room"] spDrw := by
  have GM : FnOk P w K mg base CX0 1 fM fdM ["state"] spMix := ok_mix FM T
  refine F.ok scDrw (fun vs H Q E h => ?_) (fun cdv A outer s H vs Q E hr h => ?_)
  · obtain ⟨d, g, c, n, room, rfl, _⟩ := h
    rfl
  · obtain ⟨d, g, c, n, room, rfl, ⟨r, t, gs, cs, S⟩, hn, hr0, hr1, k⟩ := h
    have hu := hu_of hr
    refine ⟨_, pss_mid (ps_if (pt_cmpR op_eq (pe_dget hu (pv 0) pe_str (fun _ _ => rfl)) pe_int (nomark _))
        (pss_one (ps_dput hu (pv 0) pe_str (pe_ifExp (pt_cmpR (op_neD hr.units) (pe_dget hu (pv 0) pe_str (fun _ _ => rfl)) (pe_lst pa_nil) (nomark _))
          (qPopAt (pe_dget hu (pv 0) pe_str (fun _ _ => rfl)) pe_int) (pe_call GM hr (by rfl) T.mx T.kmx bM .nil pass0 (pa_cons (pv 0) pa_nil))) rfl)) pss_nil)
      (pss_cons (ps_set (i := 2) scDrw.nd rfl (Or.inl rfl) (pe_op op_mod (pe_callTy call_int1 (by rfl) T.int (by decide +kernel) (pa_cons (pe_dget hu (pv 0) pe_str (fun _ _ => rfl)) pa_nil)) (pv 1)))
      (pss_cons (ps_dput hu (pv 0) pe_str (pe_op op_fdivN (pe_dget hu (pv 0) pe_str (fun _ _ => rfl)) (pv 1)) rfl)
      (pss_one (ps_ret (pv 2))))), ?_⟩
    refine ⟨fun σ1 H1 => σ1 = [some (.ref d), some (.int room), none] ∧ StA H1 d g c (n + 1) ∧ Kp d g H H1, ?_, ?_⟩
    · refine ⟨_, rfl, d, _, rfl, g_rest S.dk, rfl, _, rfl, ?_⟩
      by_cases h0 : r = 0
      · refine ifT (decide_eq_true (by rw [h0])) ?_
        refine ⟨_, rfl, d, _, rfl, g_great S.dk, Nat.zero_le _, fun l hl => ?_⟩
        have S1 := S.keep (same_new (o := .lst []) hl)
        refine ⟨_, .list [], .lst (SqL.of S1.gl) (dpInts gs), .lst (SqL.of upd_same) .nil, shInts gs, by decide, _, rfl, ?_⟩
        cases gs with
        | nil =>
          refine ifF rfl ?_
          refine ⟨_, rfl, d, g, c, n, rfl, ⟨r, t, [], cs, S1⟩, hn, fun v H' hv S2 kp => ?_⟩
          obtain ⟨r2, t2, gs2, cs2, S2⟩ := S2
          refine ⟨_, rfl, d, _, rfl, s_rest S2.dk v, rfl, ⟨v, t2, gs2, cs2, S2.rest hv⟩, (Kp.of (same_new hl)).trans (kp.trans Kp.put)⟩
        | cons x gs =>
          refine ifT rfl ?_
          obtain ⟨hx, S2⟩ := S1.pop
          refine ⟨_, rfl, d, _, rfl, g_great S1.dk, .inl ⟨rfl, _, SqL.of S1.gl⟩, g, _, 0, 0, .int x, rfl, rfl, S1.gl, (by decide), (by decide), (by first | rfl | (unfold seqIndex?; simp)), rfl, ?_⟩
          refine ⟨_, rfl, d, _, rfl, s_rest (by rw [upd_ne S1.dg]; exact S1.dk) x, rfl, ?_, (Kp.of (same_new hl)).trans (Kp.putg.trans Kp.put)⟩
          exact StA.mono ⟨x, t, gs, cs, S2⟩ (Nat.le_succ _)
      · refine ifF (decide_eq_false (fun h => h0 (by injection h))) ?_
        exact ⟨rfl, StA.mono ⟨r, t, gs, cs, S⟩ (Nat.le_succ _), Kp.refl _⟩
    · rintro σ1 H1 ⟨rfl, ⟨r, t, gs, cs, S⟩, kp⟩
      refine ⟨_, rfl, d, _, rfl, g_rest S.dk, .inl ⟨_, rfl, _, rfl, _, _, rfl, rfl, hr0, ?_⟩⟩
      refine ⟨_, rfl, d, _, rfl, g_rest S.dk, _, rfl, _, _, rfl, rfl, ⟨by omega, by omega⟩, _, rfl, d, _, rfl, s_rest S.dk _, ?_⟩
      have hq : 0 ≤ r.fdiv room := by
        rw [Int.fdiv_eq_ediv_of_nonneg _ (by omega)]
        exact Int.ediv_nonneg S.r0 (by omega)
      exact ⟨_, rfl, k _ _ (Int.emod_nonneg _ (by omega)) (Int.emod_lt_of_pos _ hr0) ⟨_, _, _, _, S.rest hq⟩ (kp.trans Kp.put)⟩
end
theorem merge_st (g c : Addr) : mergeK [] (StKV g c 0 0) = StKV g c 0 0 := by
  have e1 : putK [] (Sum.inr ("great" : Str) : Key) (V.ref g) = [(Sum.inr ("great" : Str), V.ref g)] := by
    rw [putK_new _ valV_nil]
    rfl
  have e2 : putK [((Sum.inr ("great" : Str) : Key), V.ref g)] (Sum.inr ("cells" : Str)) (V.ref c) = [(Sum.inr ("great" : Str), V.ref g), (Sum.inr ("cells" : Str), V.ref c)] := by
    rw [putK_new _ ((valV_neg k12).trans valV_nil)]
    rfl
  have e3 : putK [((Sum.inr ("great" : Str) : Key), V.ref g), (Sum.inr ("cells" : Str), V.ref c)] (Sum.inr ("rest" : Str)) (V.int 0) = [(Sum.inr ("great" : Str), V.ref g), (Sum.inr ("cells" : Str), V.ref c), (Sum.inr ("rest" : Str), V.int 0)] := by
    rw [putK_new _ ((valV_neg k13).trans ((valV_neg k23).trans valV_nil))]
    rfl
  have e4 : putK [((Sum.inr ("great" : Str) : Key), V.ref g), (Sum.inr ("cells" : Str), V.ref c), (Sum.inr ("rest" : Str), V.int 0)] (Sum.inr ("turn" : Str)) (V.int 0) = StKV g c 0 0 := by
    rw [putK_new _ ((valV_neg k14).trans ((valV_neg k24).trans ((valV_neg k34).trans valV_nil)))]
    rfl
  show putK (putK (putK (putK [] (Sum.inr ("great" : Str) : Key) (V.ref g)) (Sum.inr ("cells" : Str)) (V.ref c)) (Sum.inr ("rest" : Str)) (V.int 0)) (Sum.inr ("turn" : Str)) (V.int 0) = _
  rw [e1, e2, e3, e4]
def spBeg (K : PySem.W.Frag) : Sp := fun vs H Q _ => ∃ (a : Addr) (ns : List Int), vs = [.ref a] ∧ SqL K H a (ns.map V.int) ∧ ns.length ≤ 63 ∧
  ∀ (d g c : Addr) (H' : Hp), StA H' d g c 0 → Same H H' → H d = none → H g = none → Q (.ref d) H'
section
variable {P : Program} {w : World} {K : PySem.W.Frag} {mg : Str → Option Value} {base : Heap}
theorem scPck : FnScope ["state", "some"] ["state", "some"] (defScope sPck) := ⟨rfl, rfl, rfl, by decide +kernel, rfl, by decide +kernel, by decide +kernel⟩
theorem ok_pck {f fM fD : Addr} {fd fdM fdD : FuncData} (F : Fun K "_law_pick" "_law_pick" sPck f fd) (T : MgS K mg fM fD) (FM : Fun K "_law_mixed" "_law_mixed" sMix fM fdM) (bM : L2.Binds K fdM ["state"] [])
    (FD : Fun K "_law_draw" "_law_draw" sDrw fD fdD) (bD : L2.Binds K fdD ["state", "room"] []) : FnOk P w K mg base CX0 3 f fd ["state", "some"] spPck := by
  have GD : FnOk P w K mg base CX0 2 fD fdD ["state", "room"] spDrw := ok_drw FD T FM bM
  refine F.ok scPck (fun vs H Q E h => ?_) (fun cdv A outer s H vs Q E hr h => ?_)
  · obtain ⟨d, g, c, a, n, xs, rfl, _⟩ := h
    rfl
  · obtain ⟨d, g, c, a, n, xs, rfl, S, hn, ha, hag, hne, hlen, k⟩ := h
    refine ⟨_, pss_one (ps_ret (pe_ix ix_list (pv 1) (pe_call GD hr (by rfl) T.dr T.kdr bD .nil pass0 (pa_cons (pv 0) (pa_cons (pe_callB call_len_seq (by rfl) T.len PySem.boot_len (pa_cons (pv 1) pa_nil)) pa_nil))) (fun _ _ => rfl))), ?_⟩
    have hpos : 0 < xs.length := List.length_pos_iff.mpr hne
    have had : a ≠ d := by
      obtain ⟨r, t, gs, cs, S⟩ := S
      exact ne_of ha S.dk (by intro z; cases z)
    refine ⟨_, rfl, _, rfl, _, rfl, a, _, rfl, .inl (SqL.of ha), d, g, c, n, (xs.length : Int), rfl, S, hn, by omega, by omega, fun v H' h0 h1 S2 kp => ?_⟩
    have hi : v.toNat < xs.length := by omega
    exact ⟨a, xs, v, xs[v.toNat], rfl, rfl, SqL.of (kp _ _ ha had hag), at_of (j := v.toNat) (by omega) (List.getElem?_eq_getElem hi), k _ _ (List.getElem_mem hi) S2 kp⟩
theorem scBeg : FnScope ["script", "great", "cell"] ["script"] (defScope sBeg) := ⟨rfl, rfl, rfl, by decide +kernel, rfl, by decide +kernel, by decide +kernel⟩
theorem ok_beg {f : Addr} {fd : FuncData} (F : Fun K "_law_begun" "_law_begun" sBeg f fd) (ma : mg "abs" = none) : FnOk P w K mg base CX0 1 f fd ["script"] (spBeg K) := by
  refine F.ok scBeg (fun vs H Q E h => ?_) (fun cdv A outer s H vs Q E hr h => ?_)
  · obtain ⟨a, ns, rfl, _⟩ := h
    rfl
  · obtain ⟨a, ns, rfl, hS, hlen, k⟩ := h
    refine ⟨_, pss_cons (ps_setLc (i := 1) (own := [("cell", 2)]) (g := gName 2) (by rfl) scBeg.nd rfl rfl (sw_true rfl rfl rfl (by decide +kernel)) (pi_list (pv 0)) (blkOk_by (own := [("cell", 2)]) (N := ["script", "great", "cell"]) (sc := defScope sBeg) (by decide +kernel)) (fun _ _ _ _ _ => pg_name (i := 2) scBeg.nd rfl (Or.inl rfl))
        (fun _ _ _ _ _ => pts_one (pt_cmpR op_ge (pe_callB call_abs (by rfl) ma (by decide +kernel) (pa_cons (pv 2) pa_nil)) (pe_op op_pow pe_int pe_int) (nomark _)))
        (fun _ _ _ _ _ => pe_op op_sub (pe_callB call_abs (by rfl) ma (by decide +kernel) (pa_cons (pv 2) pa_nil)) (pe_op op_pow pe_int pe_int)))
      (pss_one (ps_ret (pe_disp (pps_cons pe_str (pv 1) (pps_cons pe_str (pe_lc (own := [("cell", 2)]) (g := gName 2) (tt := tYes) (by rfl) scBeg.nd (pi_list (pv 0)) (blkOk_by (own := [("cell", 2)]) (N := ["script", "great", "cell"]) (sc := defScope sBeg) (by decide +kernel)) (fun _ _ _ _ _ => pg_name (i := 2) scBeg.nd rfl (Or.inl rfl)) (fun _ _ _ _ _ => pts_nil)
        (fun _ _ _ _ _ => pe_callB call_abs (by rfl) ma (by decide +kernel) (pa_cons (pv 2) pa_nil))) (pps_cons pe_str pe_int (pps_cons pe_str pe_int pps_nil)))) (by rfl) (by rfl) (fun z => by cases z) (by decide)))), ?_⟩
    refine ⟨_, rfl, a, rfl, ⟨_, hS⟩, fun g hg => lc_list (K := K) (a := a) (xs := ns.map V.int)
      (fun i H' => ∃ gs : List Int, H' g = some (.lst (gs.map V.int)) ∧ (∀ x ∈ gs, 0 ≤ x) ∧ gs.length ≤ i ∧ Same H H') ⟨[], upd_same, (fun x hx => by cases hx), Nat.le_refl _, same_new hg⟩ (fun i H' _ ⟨_, _, _, _, s1⟩ => s1.seq hS) ?_ ?_⟩
    · rintro i x H' hi ⟨gs, h1, h2, h3, s1⟩
      have hil : i < (ns.map V.int).length := (List.getElem?_eq_some_iff.mp hi).1
      rw [List.length_map] at hil
      rw [List.getElem?_map] at hi
      obtain ⟨z, _, rfl⟩ := Option.map_eq_some_iff.mp hi
      refine ⟨rfl, ?_⟩
      refine ⟨_, rfl, z, rfl, _, _, rfl, rfl, ⟨by decide, by decide, by decide⟩, _, _, rfl, rfl, _, rfl, ?_⟩
      by_cases hz : (10 : Int) ^ (18 : Int).toNat ≤ (if z < 0 then -z else z)
      · refine ifT (decide_eq_true hz) ?_
        refine ⟨_, rfl, z, rfl, _, _, rfl, rfl, ⟨by decide, by decide, by decide⟩, _, _, rfl, rfl, ?_⟩
        refine ⟨gs.map V.int, h1, by rw [List.length_map, sizeLine_eq]; omega, gs ++ [(if z < 0 then -z else z) - (10 : Int) ^ (18 : Int).toNat], ?_, ?_, ?_, ?_⟩
        · rw [upd_same, List.map_append]
          rfl
        · intro x hx
          rcases List.mem_append.mp hx with hx | hx
          · exact h2 x hx
          · rw [List.mem_singleton.mp hx]
            omega
        · rw [List.length_append]
          show gs.length + 1 ≤ i + 1
          omega
        · intro b o e
          rw [upd_ne (ne_of_none e hg)]
          exact s1 _ _ e
      · refine ifF (decide_eq_false hz) ?_
        exact ⟨gs, h1, h2, by omega, s1⟩
    · rw [List.length_map]
      rintro H1 ⟨gs, h1, h2, h3, s1⟩
      refine fun p hp => ?_
      have hgp : g ≠ p := ne_of_none h1 hp
      refine ⟨_, rfl, _, rfl, a, rfl, ⟨_, (s1.trans (same_new hp)).seq hS⟩, fun c hc => lc_list (K := K) (a := a) (xs := ns.map V.int)
        (fun i H' => ∃ cs : List Int, H' c = some (.lst (cs.map V.int)) ∧ cs.length ≤ i ∧ Same (upd H1 p (.dK [])) H') ⟨[], upd_same, Nat.le_refl _, same_new hc⟩ (fun i H' _ ⟨_, _, _, s2⟩ => ((s1.trans (same_new hp)).trans s2).seq hS) ?_ ?_⟩
      · rintro i x H' hi ⟨cs, h4, h5, s2⟩
        have hil : i < (ns.map V.int).length := (List.getElem?_eq_some_iff.mp hi).1
        rw [List.length_map] at hil
        rw [List.getElem?_map] at hi
        obtain ⟨z, _, rfl⟩ := Option.map_eq_some_iff.mp hi
        refine ⟨rfl, ?_⟩
        refine ⟨_, rfl, z, rfl, cs.map V.int, h4, by rw [List.length_map, sizeLine_eq]; omega, cs ++ [if z < 0 then -z else z], ?_, ?_, ?_⟩
        · rw [upd_same, List.map_append]
          rfl
        · rw [List.length_append]
          show cs.length + 1 ≤ i + 1
          omega
        · intro b o e
          rw [upd_ne (ne_of_none e hc)]
          exact s2 _ _ e
      · rw [List.length_map]
        rintro H2 ⟨cs, h4, h5, s2⟩
        have hpc : p ≠ c := ne_of_none upd_same hc
        have hgc : g ≠ c := ne_of_none (by rw [upd_ne hgp]; exact h1) hc
        refine ⟨s2 _ _ upd_same, StKV g c 0 0, rfl, (by show 4 ≤ 15; decide), ?_⟩
        rw [merge_st]
        refine k p g c _ ⟨0, 0, gs, cs, upd_same, ?_, ?_, hgc, Int.le_refl _, h2, Int.le_refl _, Int.le_refl _, by omega, by omega⟩ ?_ (s1.free hp) hg
        · rw [upd_ne hgp]
          exact s2 _ _ (by rw [upd_ne hgp]; exact h1)
        · rw [upd_ne hpc.symm]
          exact h4
        · intro b o e
          have hbp : b ≠ p := ne_of_none (s1 _ _ e) hp
          rw [upd_ne hbp]
          exact s2 _ _ (by rw [upd_ne hbp]; exact s1 _ _ e)
end
end K80

set_option Elab.async false
set_option linter.all false
set_option pp.maxSteps 700
set_option maxRecDepth 100000
set_option maxHeartbeats 2000000
namespace K80
open PySem PySem.Spec PyProof.Rows L2
open TL (tl)
open LamX (GivesTo CodeO Tabs TabS TabB tLam pe_lamcall lamCx lamEnv lamS_by ExtN)
abbrev sCgt : Stmt := top 46
/-! ### an error that was caught and is kept -/
def exh (a : Addr) (cls : Value) (d : Option Addr) : HO := .ext fun h => ∃ (oe : Obj) (vs : Array Value), h.get? a = some oe ∧ Zc cls d oe ∧ oe.data = .fields vs
theorem exh_ok {P : Program} {w : World} {H : Hp} {h : Heap} {a : Addr} {cls : Value} {d : Option Addr} {oe : Obj} {vs : Array Value} (e : h.get? a = some oe) (z : Zc cls d oe) (hd : oe.data = .fields vs) : ObjOk P w H h a (exh a cls d) :=
  ⟨⟨oe, vs, e, z, hd⟩, ⟨oe, e⟩, fun h1 h2 x k => by
    obtain ⟨o1, v1, e1, z1, d1⟩ := x
    exact ⟨o1, v1, k _ e1, z1, d1⟩⟩
theorem exh_at {P : Program} {w : World} {H : Hp} {h : Heap} {a : Addr} {cls : Value} {d : Option Addr} (hok : HOk P w H h) (e : H a = some (exh a cls d)) : ∃ (oe : Obj) (vs : Array Value), h.get? a = some oe ∧ Zc cls d oe ∧ oe.data = .fields vs := by
  have x : ObjOk P w H h a (.ext fun h => ∃ (oe : Obj) (vs : Array Value), h.get? a = some oe ∧ Zc cls d oe ∧ oe.data = .fields vs) := hok a _ e
  exact x.1
section
variable {X : Cx} {pins : List (Addr × Obj)} {σ : L2.St} {H : Hp} {s : Shared}
theorem inv_track {a : Addr} {oe : Obj} {vs : Array Value} {cls : Value} {d : Option Addr} (I : Inv X pins σ H s) (ha : s.heap.get? a = some oe) (hz : Zc cls d oe) (hd : oe.data = .fields vs) (na : H a = none)
    (n0 : X.s_0.heap.get? a = none) (nL : a ≠ X.env.locals) (np : ∀ p ∈ X.pn ++ pins, p.1 ≠ a) : Inv X pins σ (upd H a (exh a cls d)) s := by
  have nH : ∀ {b : Addr} {o : HO}, H b = some o → b ≠ a := fun {b o} e => ne_of_none e na
  refine ⟨I.ok, I.os, I.bare, ⟨I.base.keep, I.base.slot, ?_, I.base.there, ?_, ?_, ?_⟩, I.loc, I.cell, ?_, ?_, ?_, ?_, I.len⟩
  · intro b o q n hx
    have : b ≠ a := fun z => by rw [z, n0] at q; cases q
    rw [upd_ne this]
    exact I.base.free b o q n hx
  · intro b xs q
    have q1 := I.base.tups b xs q
    rw [upd_ne (nH q1)]
    exact q1
  · intro b o u q
    have q1 := I.base.frzs b o u q
    rw [upd_ne (nH q1)]
    exact q1
  · intro b ps q
    obtain ⟨more, q1⟩ := I.base.tbls b ps q
    exact ⟨more, by rw [upd_ne (nH q1)]; exact q1⟩
  · rw [upd_ne nL.symm]
    exact I.free
  · intro x c e
    obtain ⟨v, o, h1, h2⟩ := I.cell x c e
    have : c ≠ a := fun z => by
      rw [z, ha] at h1
      cases h1
      rw [hd] at h2
      cases h2
    rw [upd_ne this]
    exact I.freeC x c e
  · intro p hp
    obtain ⟨p1, p2, p3, p4, p5⟩ := I.pin p hp
    exact ⟨p1, by rw [upd_ne (np p hp)]; exact p2, p3, p4, p5⟩
  · intro b o e
    by_cases hb : b = a
    · subst hb
      rw [upd_same] at e
      cases e
      exact exh_ok ha hz hd
    · rw [upd_ne hb] at e
      exact (I.hok b o e).stay (fun c v _ q => q) (fun c q => by rw [upd_ne (nH q)]; exact q) fun c xs q => by rw [upd_ne (nH q)]; exact q
end
/-- try .. except x as n: the error stays known behind the suite -/
def wKp (K : PySem.W.Frag) (c : Value) (i : Nat) (ts : Addr → Value → Option Addr → TS) (Wout : WX) (D : Ends) : WX := fun cls d σ H =>
  ∃ b, PySem.W.exmOne K cls c = some b ∧ (b = true → ∀ a, H a = none → ts a cls d { nx := fun σ' H' => D.nx (σ'.set i none) (upd H' a (exh a cls d)), rt := fun v H' => D.rt v (upd H' a (exh a cls d)), bk := fun σ' H' => D.bk (σ'.set i none) (upd H' a (exh a cls d)), ct := fun σ' H' => D.ct (σ'.set i none) (upd H' a (exh a cls d)) } (σ.set i (some (.ref a))) H) ∧ (b = false → Wout cls d σ H)
section
variable {X : Cx} {x n : Str} {c : Value} {i : Nat} {body suite : List Stmt} {b₀ : Stmt} {np pos pos' : Pos} {tb : WX → TS} {ts : Addr → Value → Option Addr → TS} {Wout : WX}
theorem ps_try_keep (hs : X.stack = X.env :: X.outer) (hf : X.env.frame = some X.env.locals) (hex : X.ex = []) (hN : X.N.Nodup) (hi : X.N[i]? = some n) (hln : X.env.kindOf n = some .local) (hc : Names X x c) (tk : Takes X Wout)
    (hb : ∀ (W : WX) (pn : List (Addr × Obj)) (xe : Value → Shared → Prop), Takes (X.tr pn xe) W → PassesOwn (model X.prog X.w) X.A X.env xe → PSs (X.tr pn xe) body (tb W))
    (hsu : ∀ (a : Addr) (oe : Obj) (cls : Value) (d : Option Addr) (pn : List (Addr × Obj)), Zc cls d oe → (∃ vs, oe.data = .fields vs) → PSs (X.suite a ((a, oe) :: pn)) (b₀ :: suite) (ts a cls d)) :
    PS X (.Try body [.ExceptHandler (some (.Name x np)) (some n) (b₀ :: suite) pos'] [] [] pos) (fun D σ H => tb (wKp X.K c i ts Wout D) D σ H) := by
  refine ⟨fun pins s σ H D I h => ?_⟩
  have ok := I.ok
  have hfr : X.A.frames = some (X.env :: X.outer) := by rw [ok.frames, hs]
  have hloc : Loc X.env.scope n := .inl hln
  refine wpAny_Try_except ?_
  refine wpAny_mono ((hb (wKp X.K c i ts Wout D) (X.pn ++ pins) (fun e s₁ => wpAny (model X.prog X.w) X.A (noteFrame e X.env) (fun _ s₂ => wpAny (model X.prog X.w) X.A (setFlight e none) (fun _ s₃ =>
    wpAny (model X.prog X.w) X.A (handleBy e X.env [.ExceptHandler (some (.Name x np)) (some n) (b₀ :: suite) pos']) (SP X pins D) X.xe s₃) X.xe s₂) X.xe s₁) (fun u s' xx => ?_) PassesOwn.looking).run [] s σ H D (I.toTry _) h) (fun f s1 hsp => ?_) (fun e s1 he => he)
  · obtain ⟨a, B, sI, pins', σ', H', cls, d, rfl, J', nb, up, sky, na, os, ag, b, hb1, hyes, hno⟩ := xx
    have J : Inv X pins σ' H' sI := J'.ofTry ok
    have sky' : Sky B (X.env :: X.outer) a (Zc cls d) X.env.locals s'.heap := by rw [← hs]; exact sky
    show wpAny (model X.prog X.w) X.A (noteFrame (.ref a) X.env) _ _ _
    refine Sky.land Zc.steady hfr hf sky' fun h3 fl3 up3 => ?_
    have J3 : Inv X pins σ' H' { s' with heap := h3 } := J.landed nb fl3.1 (up.trans up3) os ag
    obtain ⟨oe3, vs3, he3, hz3, hd3⟩ := fl3.there
    have nfr : a ∉ frs (X.env :: X.outer) := fun hm => by
      obtain ⟨_, o', e', hnf⟩ := fl3.2.2.1.mem hm
      rw [he3] at e'; cases e'
      exact hnf _ hd3
    have nL : a ≠ X.env.locals := fun z => nfr (List.mem_filterMap.mpr ⟨X.env, List.mem_cons_self, by rw [hf, z]⟩)
    have nF : a ∉ X.fs := fun hm => by
      obtain ⟨e, he, q⟩ := List.mem_filterMap.mp hm
      exact nfr (List.mem_filterMap.mpr ⟨e, List.mem_cons_of_mem _ he, q⟩)
    have ba : B.get? a = none := fl3.2.1
    have nS : a ∉ frs X.stack := by rw [hs]; exact nfr
    -- the error is newer than the def's entry, and than all that is pinned
    have nI : sI.heap.get? a = none := by
      cases e : sI.heap.get? a with
      | none => rfl
      | some o =>
        have := nb a o e nS
        rw [ba] at this
        cases this
    have n0 : X.s_0.heap.get? a = none := by
      cases e : X.s_0.heap.get? a with
      | none => rfl
      | some o =>
        obtain ⟨o', e'⟩ := J.base.there a o e (by rw [hex]; exact List.not_mem_nil)
        rw [nI] at e'
        cases e'
    have npn : ∀ p ∈ X.pn ++ pins, p.1 ≠ a := fun p hp z => by
      have := (J.pin p hp).1
      rw [z, nI] at this
      cases this
    have S3 := J3.suite he3 hd3 na nL nF
    refine wpAny_handleBy_cons (codeAny_handlers_test ?_) (by intro q; cases q)
    have LT : PySem.W.Looks (model X.prog X.w) h3 (typeOf (.ref a)) cls := fun A Q E s k q => wpAny_typeOf_ref (k _ _ he3) (by rw [hz3.1]; exact q)
    have LM := PySem.W.exm_one (M := model X.prog X.w) (J3.kIn) LT hb1
    have test : ∀ {Q : Value → Shared → Prop} {E : Value → Shared → Prop}, Q c { s' with heap := h3 } → wpAny (model X.prog X.w) (X.A.mark (some (.ref a))) (eval (.Name x np) X.env) Q E { s' with heap := h3 } := fun {Q E} q => by
      obtain ⟨hg, hdbg, hm | ⟨hm, hv, hnn⟩⟩ := hc
      · exact ld_glob (X := X.suite a ((a, oe3) :: (X.pn ++ pins))) S3 hg hm q hdbg
      · exact ld_blt (X := X.suite a ((a, oe3) :: (X.pn ++ pins))) S3 hg hm hv q hnn hdbg
    refine test (LM.here ?_)
    cases b with
    | true =>
      refine codeAny_handlers_suite_as ?_
      refine HandSPX.lands_againZ fl3 fun h4 fl4 up4 => ?_
      have J4 : Inv X pins σ' H' { s' with heap := h4 } := J.landed nb fl4.1 ((up.trans up3).trans up4) os ag
      obtain ⟨oe4, vs4, he4, hz4, hd4⟩ := fl4.there
      have S4 := J4.suite he4 hd4 na nL nF
      refine store_ok (X := X.suite a ((a, oe4) :: (X.pn ++ pins))) (v := .ref a) S4 hN hi hloc rfl (fun s5 S5 => ?_) (.inr hln)
      refine wpAny_mono ((hsu a oe4 cls d (X.pn ++ pins) hz4 ⟨_, hd4⟩).run [] s5 _ H' _ S5 (hyes rfl a na)) (fun f s6 hsp => ?_) (fun _ _ z => False.elim z)
      have end_ : ∀ {σ6 : L2.St} {H6 : Hp} {Q : Shared → Prop}, Inv (X.suite a ((a, oe4) :: (X.pn ++ pins))) [] σ6 H6 s6 → (∀ s7, Inv X pins (σ6.set i none) (upd H6 a (exh a cls d)) s7 → Q s7) →
          wpAny (model X.prog X.w) X.A (do bindName X.env n .none; unbindBehindTheSuite X.env n pos') (fun _ s7 => Q s7) X.xe s6 := fun {σ6 H6 Q} S6 hq => by
        obtain ⟨g1, g2, _, _, _⟩ := S6.pin (a, oe4) (List.mem_append_left _ List.mem_cons_self)
        exact gone_ok (inv_track (S6.unsuite ok) g1 hz4 hd4 g2 n0 nL npn) hN hi hln hq
      cases f with
      | next =>
        obtain ⟨σ6, H6, S6, q6⟩ := hsp
        exact end_ S6 fun s7 J7 => ⟨_, _, J7, q6⟩
      | brk =>
        obtain ⟨σ6, H6, S6, q6⟩ := hsp
        exact end_ S6 fun s7 J7 => ⟨_, _, J7, q6⟩
      | cont =>
        obtain ⟨σ6, H6, S6, q6⟩ := hsp
        exact end_ S6 fun s7 J7 => ⟨_, _, J7, q6⟩
      | ret u =>
        obtain ⟨v6, σ6, H6, S6, r6, q6⟩ := hsp
        exact end_ S6 fun s7 J7 => ⟨_, _, _, J7, r6, q6⟩
    | false =>
      show wpAny _ X.A (handleBy (.ref a) X.env []) _ _ _
      refine wpAny_handleBy_nil ?_
      obtain ⟨k1, k2, k3, oe, vs, T, oT, ts', he, hz, hd, h1, hr⟩ := id fl3
      unfold PySem.passOn
      refine wpAny_bind (wpAny_field he hd h1 ?_)
      rw [if_neg (show ¬ ((Value.ref T == Value.none) = true) from by simp)]
      have fin : wpAny (model X.prog X.w) X.A (setFlight (.ref a) X.env.frame) (fun _ s4 => wpAny (model X.prog X.w) X.A (throw (.ref a) : Sem Flow) (SP X pins D) X.xe s4) X.xe { s' with heap := h3 } := by
        rw [hf]
        refine HandSPX.setFlight_upZ fl3 fun h4 hh4 up4 => wpAny_throw (tk _ _ ?_)
        exact ⟨a, B, sI, pins, σ', H', cls, d, rfl, J, nb, (up.trans up3).trans up4, .inr (.inr (by rw [hs]; exact hh4)), na, os, ag, hno rfl⟩
      first
        | exact wpAny_bind (wpAny_pure (wpAny_bind fin))
        | exact wpAny_bind fin
  · cases f with
    | next =>
      obtain ⟨σ', H', J', q⟩ := hsp
      exact wpAny_execs_nil ⟨σ', H', J'.ofTry ok, q⟩
    | brk =>
      obtain ⟨σ', H', J', q⟩ := hsp
      exact ⟨σ', H', J'.ofTry ok, q⟩
    | cont =>
      obtain ⟨σ', H', J', q⟩ := hsp
      exact ⟨σ', H', J'.ofTry ok, q⟩
    | ret u =>
      obtain ⟨v, σ', H', J', r, q⟩ := hsp
      exact ⟨v, σ', H', J'.ofTry ok, r, q⟩
end
/-! ### what is asked of a kept error -/
theorem exh_inst {X : Cx} {pins : List (Addr × Obj)} {σ : L2.St} {H : Hp} {s : Shared} {a D dd : Addr} {fs : List (Str × V)} (I : Inv X pins σ H s) (h1 : H a = some (exh a (.ref D) (some dd))) (h2 : H dd = some (.xd fs)) :
    ∃ (oe od : Obj) (mA : Str → Option Value), PySem.W.InstAt s.heap a oe D (some od) ∧ (∀ f, RelO (fs.lookup f) (mA f)) ∧ ∀ n, PySem.W.lookIn n od = some (mA n) := by
  obtain ⟨oe, vs, ha, hz, hd⟩ := exh_at I.hok h1
  have hx : ObjOk X.prog X.w H s.heap dd (.xd fs) := I.hok dd _ h2
  obtain ⟨mA, hns, hr⟩ := hx
  obtain ⟨od, ho, hl⟩ := lookIn_ns hns
  exact ⟨oe, od, mA, ⟨ha, hz.1, by unfold PySem.W.notCls; rw [hd] <;> rfl, by rw [hz.2]; exact ho⟩, hr, hl⟩
/-- isinstance(e, c), e a kept error of the class at D -/
def rIsH (K : PySem.W.Frag) (D : Addr) : List V → Hp → VK → Prop := fun xs H Q => ∃ (a dd : Addr) (fs : List (Str × V)) (c : V) (cv : Value) (b : Bool), xs = [.ref a, c] ∧ (∀ u, RelV c u → u = cv) ∧ H a = some (exh a (.ref D) (some dd)) ∧ H dd = some (.xd fs) ∧
  PySem.W.kitOne K (.ref D) cv = some b ∧ Q (.bl b) H
theorem call_isH {X : Cx} {D : Addr} (C : ExcC X.K D) : CallR X (.builtin "isinstance") (rIsH X.K D) := by
  intro pins s σ H xs us Q I r h
  obtain ⟨a, dd, fs, c, cv, b, rfl, hcv, h1, h2, e, q⟩ := h
  obtain ⟨u1, u2, rfl, r1, r2⟩ := vals2 r
  cases r1
  have ec := hcv _ r2
  subst ec
  obtain ⟨oe, od, mA, J, _, _⟩ := exh_inst I h1 h2
  have hcl : (PySem.W.clsIn X.K D).isSome = true := by
    obtain ⟨cd, hc, _⟩ := PySem.W.any_some C.hd
    rw [hc]
    rfl
  exact PySem.W.kia_one (PySem.W.kitx_exc hcl C.hg C.hk C.hs C.ha C.hn C.ht C.hm) I.kIn J e (fun z => nomatch z) fun tk => ⟨.bl b, H, I.kept (t' := tk) fun _ _ z => z, rfl, q⟩
theorem pss_len {X : Cx} {body : List Stmt} {t : TS} {n : Nat} (h : PSs X body t) (hn : X.N.length = n) : PSs X body (fun D σ H => σ.length = n → t D σ H) :=
  ⟨fun pins s σ H D I hh => h.run pins s σ H D I (hh (I.len.trans hn))⟩
theorem pe_weak {X : Cx} {e : Expr} {te : TE} (he : PE X e te) : PE X e (fun σ H Q => ∃ Qc : VK, te σ H Qc ∧ ∀ v H1, Qc v H1 → Q v H1) := by
  refine ⟨fun pins s σ H Q I h => ?_⟩
  obtain ⟨Qc, h, k⟩ := h
  exact thn (he.run pins s σ H Qc I h) fun u s1 ⟨v, H1, I1, r, q⟩ => ⟨v, H1, I1, r, k v H1 q⟩
/-- f(k = v, ..) -/
theorem pe_callK0 {X : Cx} {CX : CXT} {k : Nat} {f : Addr} {fd : FuncData} {ps ks : List Str} {sp : Sp} {E : XK} {x : Str} {p pos : Pos} {kws : List Keyword} {tk : TA} {g : List Value → List Value → List Value} {gV : List V → List V → List V}
    (F : FnOk X.prog X.w X.K X.mg X.base CX k f fd ps sp) (hr : Room k X.A) (hg : Gl X x) (hm : X.mg x = some (.ref f)) (hk : PySem.W.keepIn X.K (.ref f) = true) (hb : KBinds X.K fd ps ks g gV) (hx : Passes CX X E)
    (hkw : PK X kws tk) (hall : (backToKw pos (keywordEach kws X.env)).all (·.1.isSome) = true := by rfl) (hks : (backToKw pos (keywordEach kws X.env)).filterMap (·.1) = ks := by rfl)
    (hdb : (x == ("__debug__" : Str)) = false := by decide) (hpl : ((backTo pos (starEach [] X.env)).any (·.1) || (backToKw pos (keywordEach kws X.env)).any (·.1.isNone)) = false := by rfl) :
    PE X (.Call (.Name x p) [] kws pos) (fun σ H Q => tk σ H fun zs H2 => sp (gV [] zs) H2 Q E) := by
  refine ⟨fun pins s σ H Q I h => ?_⟩
  refine wpAny_Call_Name_kw (ld_glob I hg hm ?_ hdb)
  refine PySem.W.callWith_KW0 (h₀ := X.base) I.ok.mod.kin hk hall ?_ hpl
  refine thn (hkw.run pos pins s σ H _ I h) fun ws s2 ⟨zs, H2, I2, rz, q2⟩ => ⟨I2.kIn, ?_⟩
  rw [hks]
  exact run_fnk F hr hb hx I2 .nil rz q2
/-- _law_caught(action): what the call raises, kept; or None -/
def TTc (K : PySem.W.Frag) (CE : Addr) : (XK → Hp → VK → Prop) → Hp → VK → Prop := fun tl H Q =>
  tl (fun cls d H1 => ∃ b, PySem.W.exmOne K cls (.ref CE) = some b ∧ (b = true → ∀ a, H1 a = none → Q (.ref a) (upd H1 a (exh a cls d))) ∧ (b = false → False)) H (fun _ H1 => Q .non H1)
abbrev NC : List Str := ["action", "found", "error"]
theorem scC : FnScope NC ["action"] (defScope sCgt) := ⟨rfl, rfl, rfl, by decide +kernel, rfl, by decide +kernel, by decide +kernel⟩
theorem caught_gives {X : Cx} {CE g : Addr} {cdg : Value} {q : Str} (hme : X.mg "ClockError" = some (.ref CE)) : GivesTo X NC "_law_caught" (defScope sCgt) g cdg (defBody sCgt) "action" q (TTc X.K CE) := by
  intro f c' s H Q tl act hc h
  refine ⟨_, pss_cons (ps_set (i := 1) scC.nd rfl (Or.inl rfl) pe_non)
    (pss_cons (ps_try_keep (X := (cxOf C8.CX0 X.prog X.w X.K X.mg X.base NC "_law_caught" (defScope sCgt) g cdg X.A X.stack s H C8.E0).nox) (c := .ref CE) (i := 2)
      (tb := fun W D σ H => ∃ (Ech : XK) (Qc : VK), (∀ cls d σ' H', Ech cls d H' → W cls d σ' H') ∧ σ[0]? = some (some (.ref f)) ∧ H c' = some (CodeO c' q) ∧ tl Ech H Qc ∧ ∀ v H1, Qc v H1 → D.nx σ H1)
      rfl rfl rfl scC.nd rfl rfl ⟨rfl, rfl, .inl hme⟩ takes0 (fun W pn xe tk _ => ?_) (fun a oe cls d pn _ _ => pss_len (X := Cx.suite (cxOf C8.CX0 X.prog X.w X.K X.mg X.base NC "_law_caught" (defScope sCgt) g cdg X.A X.stack s H C8.E0).nox a ((a, oe) :: pn)) (n := 3) (pss_one (ps_set (i := 1) scC.nd rfl (Or.inl rfl) (pv 2))) rfl))
    (pss_one (ps_ret (pv 1)))), ?_⟩
  · refine ⟨fun pins s' σ H' D I h' => ?_⟩
    obtain ⟨Ech, Qc, hW, h1, h2, h3, h4⟩ := h'
    have hp := fun p1 p2 => act W pn xe Ech p1 p2 tk hW
    exact (pss_one (ps_expr (pe_weak (hp _ _)))).run pins s' σ H' D I ⟨Qc, ⟨h1, h2, h3⟩, h4⟩
  · refine ⟨_, _, ?_, rfl, hc, h, fun v H1 q => ⟨_, rfl, q⟩⟩
    rintro cls d σ' H' ⟨b, e1, e2, e3⟩
    refine ⟨b, e1, fun hb a ha hl => ?_, fun hb => (e3 hb).elim⟩
    match σ', hl with
    | [x, y, z], _ => exact ⟨_, rfl, _, rfl, e2 hb a ha⟩
    | [], hl => simp at hl
    | [_], hl => simp at hl
    | [_, _], hl => simp at hl
    | _ :: _ :: _ :: _ :: _, hl => simp at hl
end K80

set_option Elab.async false
set_option linter.all false
set_option pp.maxSteps 700
set_option maxRecDepth 100000
set_option maxHeartbeats 2000000
namespace K80
open PySem PySem.Spec PyProof.Rows L2
open TL (tl)
/-! ### any value that the law makes, as data -/
inductive Dt where
  | non | bl (b : Bool) | int (i : Int) | str (s : Str) | lst (l : List Dt) | tup (l : List Dt) | dic
mutual
inductive DV (g : Addr) (H : Hp) : V → Dt → Prop
  | non : DV g H .non .non
  | bl (b : Bool) : DV g H (.bl b) (.bl b)
  | int (i : Int) : DV g H (.int i) (.int i)
  | str {s : Str} (h : s.length ≤ 10000) : DV g H (.str s) (.str s)
  | lst {a : Addr} {xs : List V} {ds : List Dt} (e : H a = some (.lst xs)) (n : a ≠ g) (h : ds.length ≤ 1000) (r : DVs g H xs ds) : DV g H (.ref a) (.lst ds)
  | tup {a : Addr} {xs : List V} {ds : List Dt} (e : H a = some (.tup xs)) (h : ds.length ≤ 1000) (r : DVs g H xs ds) : DV g H (.ref a) (.tup ds)
  | dic {a : Addr} (e : H a = some (.dK [])) : DV g H (.ref a) .dic
inductive DVs (g : Addr) (H : Hp) : List V → List Dt → Prop
  | nil : DVs g H [] []
  | cons {v : V} {vs : List V} {d : Dt} {ds : List Dt} (h : DV g H v d) (r : DVs g H vs ds) : DVs g H (v :: vs) (d :: ds)
end
structure Kv (g : Addr) (H H' : Hp) : Prop where
  lst : ∀ b xs, H b = some (.lst xs) → b ≠ g → H' b = some (.lst xs)
  tup : ∀ b xs, H b = some (.tup xs) → H' b = some (.tup xs)
  dic : ∀ b, H b = some (.dK []) → H' b = some (.dK [])
theorem Kv.of {g : Addr} {H H' : Hp} (s : Same H H') : Kv g H H' := ⟨fun b xs e _ => s _ _ e, fun b xs e => s _ _ e, fun b e => s _ _ e⟩
theorem Kv.trans {g : Addr} {H H1 H2 : Hp} (a : Kv g H H1) (b : Kv g H1 H2) : Kv g H H2 := ⟨fun c xs e n => b.lst _ _ (a.lst _ _ e n) n, fun c xs e => b.tup _ _ (a.tup _ _ e), fun c e => b.dic _ (a.dic _ e)⟩
theorem Kv.kp {g d c : Addr} {H H' : Hp} {n : Nat} (S : StA H d g c n) (k : Kp d g H H') : Kv g H H' := by
  obtain ⟨r, t, gs, cs, S⟩ := S
  refine ⟨fun b xs e n => k _ _ e (fun z => ?_) n, fun b xs e => k _ _ e (fun z => ?_) (fun z => ?_), fun b e => k _ _ e (fun z => ?_) (fun z => ?_)⟩
  · rw [z, S.dk] at e
    cases e
  · rw [z, S.dk] at e
    cases e
  · rw [z, S.gl] at e
    cases e
  · rw [z, S.dk] at e
    have q := Option.some.inj e
    unfold StKV at q
    cases q
  · rw [z, S.gl] at e
    cases e
mutual
theorem DV.keep {g : Addr} {H H' : Hp} (k : Kv g H H') : ∀ {v : V} {d : Dt}, DV g H v d → DV g H' v d
  | _, _, .non => .non
  | _, _, .bl b => .bl b
  | _, _, .int i => .int i
  | _, _, .str h => .str h
  | _, _, .lst e n h r => .lst (k.lst _ _ e n) n h (DVs.keep k r)
  | _, _, .tup e h r => .tup (k.tup _ _ e) h (DVs.keep k r)
  | _, _, .dic e => .dic (k.dic _ e)
theorem DVs.keep {g : Addr} {H H' : Hp} (k : Kv g H H') : ∀ {v : List V} {d : List Dt}, DVs g H v d → DVs g H' v d
  | _, _, .nil => .nil
  | _, _, .cons h r => .cons (DV.keep k h) (DVs.keep k r)
end
theorem DVs.len {g : Addr} {H : Hp} : ∀ {xs : List V} {ds : List Dt}, DVs g H xs ds → xs.length = ds.length
  | _, _, .nil => rfl
  | _, _, .cons _ r => congrArg (· + 1) r.len
theorem DVs.at_ {g : Addr} {H : Hp} : ∀ {xs : List V} {ds : List Dt}, DVs g H xs ds → ∀ {i : Nat} {v : V}, xs[i]? = some v → ∃ d, ds[i]? = some d ∧ DV g H v d
  | _, _, .nil, _, _, e => by cases e
  | _, _, .cons h r, 0, _, e => by
    obtain rfl := Option.some.inj e
    exact ⟨_, rfl, h⟩
  | _, _, .cons h r, i + 1, _, e => r.at_ (i := i) e
theorem DVs.at' {g : Addr} {H : Hp} : ∀ {xs : List V} {ds : List Dt}, DVs g H xs ds → ∀ {i : Nat} {d : Dt}, ds[i]? = some d → ∃ v, xs[i]? = some v ∧ DV g H v d
  | _, _, .nil, _, _, e => by cases e
  | _, _, .cons h r, 0, _, e => by
    obtain rfl := Option.some.inj e
    exact ⟨_, rfl, h⟩
  | _, _, .cons h r, i + 1, _, e => r.at' (i := i) e
theorem DVs.app {g : Addr} {H : Hp} : ∀ {xs ys : List V} {ds es : List Dt}, DVs g H xs ds → DVs g H ys es → DVs g H (xs ++ ys) (ds ++ es)
  | _, _, _, _, .nil, q => q
  | _, _, _, _, .cons h r, q => .cons h (r.app q)
def isStr : Dt → Bool | .str _ => true | _ => false
def isTup : Dt → Bool | .tup _ => true | _ => false
def isBl : Dt → Bool | .bl _ => true | _ => false
def isInt : Dt → Bool | .int _ => true | _ => false
theorem DV.ty {K : PySem.W.Frag} {g : Addr} {H : Hp} {v : V} {d : Dt} (h : DV g H v d) : ∃ t, TyX K H v t ∧ PySem.W.kitOne K t (.type "str") = some (isStr d) ∧ PySem.W.kitOne K t (.type "tuple") = some (isTup d) ∧
    PySem.W.kitOne K t (.type "bool") = some (isBl d) ∧ PySem.W.kitOne K t (.type "int") = some (isInt d || isBl d) := by
  cases h with
  | non => exact ⟨_, .base .non, kit_ty (show kitB "NoneType" "str" = some false by decide +kernel), kit_ty (show kitB "NoneType" "tuple" = some false by decide +kernel), kit_ty (show kitB "NoneType" "bool" = some false by decide +kernel), kit_ty (show kitB "NoneType" "int" = some false by decide +kernel)⟩
  | bl b => exact ⟨_, .base (.bl _), kit_ty (show kitB "bool" "str" = some false by decide +kernel), kit_ty (show kitB "bool" "tuple" = some false by decide +kernel), kit_ty (show kitB "bool" "bool" = some true by decide +kernel), kit_ty (show kitB "bool" "int" = some true by decide +kernel)⟩
  | int i => exact ⟨_, .base (.int _), kit_ty (show kitB "int" "str" = some false by decide +kernel), kit_ty (show kitB "int" "tuple" = some false by decide +kernel), kit_ty (show kitB "int" "bool" = some false by decide +kernel), kit_ty (show kitB "int" "int" = some true by decide +kernel)⟩
  | str h => exact ⟨_, .base (.str _), kit_ty (show kitB "str" "str" = some true by decide +kernel), kit_ty (show kitB "str" "tuple" = some false by decide +kernel), kit_ty (show kitB "str" "bool" = some false by decide +kernel), kit_ty (show kitB "str" "int" = some false by decide +kernel)⟩
  | lst e n h r => exact ⟨_, .base (.lst e), kit_ty (show kitB "list" "str" = some false by decide +kernel), kit_ty (show kitB "list" "tuple" = some false by decide +kernel), kit_ty (show kitB "list" "bool" = some false by decide +kernel), kit_ty (show kitB "list" "int" = some false by decide +kernel)⟩
  | tup e h r => exact ⟨_, .base (.tup e), kit_ty (show kitB "tuple" "str" = some false by decide +kernel), kit_ty (show kitB "tuple" "tuple" = some true by decide +kernel), kit_ty (show kitB "tuple" "bool" = some false by decide +kernel), kit_ty (show kitB "tuple" "int" = some false by decide +kernel)⟩
  | dic e => exact ⟨_, .base (.dK e), kit_ty (show kitB "dict" "str" = some false by decide +kernel), kit_ty (show kitB "dict" "tuple" = some false by decide +kernel), kit_ty (show kitB "dict" "bool" = some false by decide +kernel), kit_ty (show kitB "dict" "int" = some false by decide +kernel)⟩
/-! ### any value == a text -/
section
open PySem.SeqAt
variable {s : Shared}
theorem dict_eq_str_no (l : Addr) (c : Value) (es : Array DictEntry) (n : Nat) (dd : Option Addr) (sl : Array (Option Value)) (b : Str) (u : PySem.Tok) :
    Meets (Builtin.«dict.__eq__» ⟨[.ref l, .str b u], []⟩) (fun _ R s => c = .type "dict" ∧ s.heap.get? l = some { cls := c, dict := dd, data := .dict es n, slots := sl } ∧ R (.ok (.ret .notImplemented)) s) :=
  .of_wp fun prog w A R s h => by obtain ⟨hp, g, d, tk, os⟩ := s; obtain ⟨rfl, ho, h⟩ := h; have f1 := PySem.F.sub_str_dict; wp_walk using wpAny_loadPart' ho; exact ⟨_, rfl, h⟩
theorem str_eq_dict_no (b : Str) (u : PySem.Tok) (l : Addr) (c : Value) (es : Array DictEntry) (n : Nat) (dd : Option Addr) (sl : Array (Option Value)) :
    Meets (Builtin.«str.__eq__» ⟨[.str b u, .ref l], []⟩) (fun _ R s => s.heap.get? l = some { cls := c, dict := dd, data := .dict es n, slots := sl } ∧ R (.ok (.ret .notImplemented)) s) :=
  .of_wp fun prog w A R s h => by obtain ⟨hp, g, d, tk, os⟩ := s; obtain ⟨ho, h⟩ := h; wp_walk using wpAny_loadPart' ho, wpAny_load ho; exact ⟨_, rfl, h⟩
theorem rc_dict_str {A : Around} {l : Addr} {c : Value} {es : Array DictEntry} {n : Nat} {dd : Option Addr} {sl : Array (Option Value)} (b : Str) (u : PySem.Tok) (hc : c = .type "dict") (ho : s.heap.get? l = some { cls := c, dict := dd, data := .dict es n, slots := sl }) (hu : A.units < cLine) :
    RcAt A s (.ref l) (.str b u) false := by
  intro prog w E Q h
  exact rc_eq_decline_or (k := false) ⟨_, ho, hc⟩ (typeIs_str s b u) (by decide) PySem.F.sub_str_dict PySem.F.slot_dict_eq PySem.F.slot_str_eq_refl
    (fun _ q => call_meets PySem.F.slot_dict_eq ⟨_, ho, hc⟩ PySem.F.entry_dict_eq (PySem.F.args_dict_eq_2 _ _) (dict_eq_str_no l c es n dd sl b u) ⟨hc, ho, q⟩)
    (fun _ q => call_meets PySem.F.slot_str_eq_refl (typeIs_str s b u) PySem.F.entry_str_eq (PySem.F.args_str_eq_2 _ _) (str_eq_dict_no b u l c es n dd sl) ⟨ho, q⟩)
    (fun _ q => wpAny_of_eq (rfl : isSame (.ref l) (.str b u) = pure false) q) (.inr hu) h
end
def eqS (d : Dt) (z : Str) : Bool := match d with
  | .str s => s == z
  | _ => false
section
variable {X : Cx}
theorem op_eqS (hu : X.A.units + 64 < cLine) : OpR X (compareOp .Eq) (fun x y H Q => ∃ (g : Addr) (d : Dt) (z : Str), y = .str z ∧ DV g H x d ∧ Q (.bl (eqS d z)) H) := by
  intro pins s σ H x y v u Q I rx ry h
  obtain ⟨g, d, z, rfl, hd, q⟩ := h
  obtain ⟨tz, rfl⟩ := (show ∃ t, u = Value.str z t from ry)
  have hu' : X.A.units < cLine := by omega
  cases hd with
  | non =>
    cases (show v = Value.none from rx)
    exact SeqAt.RcAt.none_str z tz _ _ _ _ (fin_bl I q rfl)
  | bl b =>
    cases (show v = Value.bool b from rx)
    exact SeqAt.RcAt.bool_str b z tz _ _ _ _ (fin_bl I q rfl)
  | int i =>
    obtain ⟨ti, rfl⟩ := (show ∃ t, v = Value.int i t from rx)
    exact SeqAt.RcAt.int_str i ti z tz _ _ _ _ (fin_bl I q rfl)
  | @str b hb =>
    obtain ⟨ti, rfl⟩ := (show ∃ t, v = Value.str b t from rx)
    exact SeqAt.RcAt.str_str b ti z tz _ _ _ _ (fin_bl I q rfl)
  | @lst a xs ds e n h r =>
    cases (show v = Value.ref a from rx)
    obtain ⟨us, r1, p1, _⟩ := I.list (SqL.of e : SqL X.K H a xs)
    exact SeqAt.RcAt.list_str z tz p1.isList hu' _ _ _ _ (fin_bl I q rfl)
  | @tup a xs ds e h r =>
    cases (show v = Value.ref a from rx)
    obtain ⟨us, r1, p1, _⟩ := I.tuple (SqT.of e : SqT X.K H a xs)
    exact SeqAt.RcAt.tuple_str z tz p1 hu' _ _ _ _ (fin_bl I q rfl)
  | @dic a e =>
    cases (show v = Value.ref a from rx)
    obtain ⟨_, _, _, _, o, es, ep, ho, hx, hd, _⟩ := (show ObjOk X.prog X.w H s.heap a (.dK []) from I.hok a _ e)
    obtain ⟨oc, od, odt, osl⟩ := o
    cases (show odt = .dict es ep from hd)
    exact rc_dict_str z tz hx.1 ho hu' _ _ _ _ (fin_bl I q rfl)
end
end K80

set_option Elab.async false
set_option linter.all false
set_option pp.maxSteps 700
set_option maxRecDepth 100000
set_option maxHeartbeats 2000000
namespace K80
open PySem PySem.Spec PyProof.Rows L2
open TL (tl)
abbrev sWhl : Stmt := top 1
abbrev sWin : Stmt := top 2
abbrev sTof : Stmt := top 4
abbrev sTin : Stmt := top 5



def lenIs (n : Nat) : Dt → Bool | .tup l => decide (l.length = n) | _ => false
def lenIn (lo hi : Int) : Dt → Bool | .tup l => decide (lo ≤ (l.length : Int)) && decide ((l.length : Int) ≤ hi) | _ => false
def intIn (lo hi : Int) : Dt → Bool | .int i => decide (lo ≤ i) && decide (i ≤ hi) | _ => false
/-- a question about any value -/
def spAsk (f : Dt → Bool) : Sp := fun vs H Q _ => ∃ (g : Addr) (v : V) (d : Dt), vs = [v] ∧ DV g H v d ∧ ∀ H', Same H H' → Q (.bl (f d)) H'
def spWin : Sp := fun vs H Q _ => ∃ (g : Addr) (v : V) (d : Dt) (lo hi : Int), vs = [v, .int lo, .int hi] ∧ DV g H v d ∧ ∀ H', Same H H' → Q (.bl (intIn lo hi d)) H'
def spTof : Sp := fun vs H Q _ => ∃ (g : Addr) (v : V) (d : Dt) (n : Nat), vs = [v, .int (n : Nat)] ∧ DV g H v d ∧ ∀ H', Same H H' → Q (.bl (lenIs n d)) H'
def spTin : Sp := fun vs H Q _ => ∃ (g : Addr) (v : V) (d : Dt) (lo hi : Int), vs = [v, .int lo, .int hi] ∧ DV g H v d ∧ ∀ H', Same H H' → Q (.bl (lenIn lo hi d)) H'
structure MgP (K : PySem.W.Frag) (mg : Str → Option Value) (fWhl : Addr) : Prop where
  whl : mg "is_whole" = some (.ref fWhl)
  kwhl : PySem.W.keepIn K (.ref fWhl) = true
  isi : mg "isinstance" = none
  len : mg "len" = none
  int : mg "int" = none
  bol : mg "bool" = none
  tpl : mg "tuple" = none
section
variable {P : Program} {w : World} {K : PySem.W.Frag} {mg : Str → Option Value} {base : Heap}
theorem scWhl : FnScope ["value"] ["value"] (defScope sWhl) := ⟨rfl, rfl, rfl, by decide +kernel, rfl, by decide +kernel, by decide +kernel⟩
theorem ok_whl {f fW : Addr} {fd : FuncData} (F : Fun K "is_whole" "is_whole" sWhl f fd) (T : MgP K mg fW) : FnOk P w K mg base CX0 1 f fd ["value"] (spAsk isInt) := by
  refine F.ok scWhl (fun vs H Q E h => ?_) (fun cdv A outer s H vs Q E hr h => ?_)
  · obtain ⟨g, v, d, rfl, _⟩ := h
    rfl
  · obtain ⟨g, v, d, rfl, hd, k⟩ := h
    obtain ⟨t, ht, k1, k2, k3, k4⟩ := hd.ty (K := K)
    refine ⟨_, pss_one (ps_ret (pe_and (pe_callB call_isi (by rfl) T.isi (by decide +kernel) (pa_cons (pv 0) (pa_cons (pe_bltn (v := .ty "int") (by rfl) T.int boot_int rfl) pa_nil)))
      (pe_one (pe_not (pe_callB call_isi (by rfl) T.isi (by decide +kernel) (pa_cons (pv 0) (pa_cons (pe_bltn (v := .ty "bool") (by rfl) T.bol boot_bool rfl) pa_nil))))))), ?_⟩
    refine ⟨_, rfl, _, _, _, _, _, rfl, .ty "int", ht, k4, _, rfl, ?_⟩
    cases d with
    | int i => exact iteT ⟨_, rfl, _, _, _, _, _, rfl, .ty "bool", ht, k3, _, rfl, k H (Same.refl H)⟩
    | bl b => exact iteT ⟨_, rfl, _, _, _, _, _, rfl, .ty "bool", ht, k3, _, rfl, k H (Same.refl H)⟩
    | non => exact iteF (k H (Same.refl H))
    | str s => exact iteF (k H (Same.refl H))
    | lst l => exact iteF (k H (Same.refl H))
    | tup l => exact iteF (k H (Same.refl H))
    | dic => exact iteF (k H (Same.refl H))
theorem scWin : FnScope ["value", "low", "high"] ["value", "low", "high"] (defScope sWin) := ⟨rfl, rfl, rfl, by decide +kernel, rfl, by decide +kernel, by decide +kernel⟩
theorem ok_win {f fW : Addr} {fd fdW : FuncData} (F : Fun K "is_within" "is_within" sWin f fd) (T : MgP K mg fW) (FW : Fun K "is_whole" "is_whole" sWhl fW fdW) (bW : L2.Binds K fdW ["value"] []) : FnOk P w K mg base CX0 2 f fd ["value", "low", "high"] spWin := by
  have GW : FnOk P w K mg base CX0 1 fW fdW ["value"] (spAsk isInt) := ok_whl FW T
  refine F.ok scWin (fun vs H Q E h => ?_) (fun cdv A outer s H vs Q E hr h => ?_)
  · obtain ⟨g, v, d, lo, hi, rfl, _⟩ := h
    rfl
  · obtain ⟨g, v, d, lo, hi, rfl, hd, k⟩ := h
    refine ⟨_, pss_one (ps_ret (pe_and (pe_call GW hr (by rfl) T.whl T.kwhl bW .nil pass0 (pa_cons (pv 0) pa_nil)) (pe_one (pe_chain op_le op_le (pv 1) (pv 0) (pv 2))))), ?_⟩
    refine ⟨_, rfl, g, v, d, rfl, hd, fun H' s => ⟨_, rfl, ?_⟩⟩
    cases hd with
    | int i =>
      refine iteT ⟨_, rfl, _, rfl, _, _, rfl, rfl, _, rfl, ?_⟩
      have e : intIn lo hi (.int i) = (decide (lo ≤ i) && decide (i ≤ hi)) := rfl
      by_cases h1 : lo ≤ i
      · rw [decide_eq_true h1] at e ⊢
        refine iteT ⟨_, rfl, _, _, rfl, rfl, ?_⟩
        have q := k H' s
        rw [e] at q
        exact q
      · rw [decide_eq_false h1] at e ⊢
        refine iteF ?_
        have q := k H' s
        rw [e] at q
        exact q
    | bl b => exact iteF (k H' s)
    | non => exact iteF (k H' s)
    | str z => exact iteF (k H' s)
    | lst _ _ _ _ => exact iteF (k H' s)
    | tup _ _ _ => exact iteF (k H' s)
    | dic _ => exact iteF (k H' s)
theorem scTof : FnScope ["value", "many"] ["value", "many"] (defScope sTof) := ⟨rfl, rfl, rfl, by decide +kernel, rfl, by decide +kernel, by decide +kernel⟩
theorem ok_tof {f fW : Addr} {fd : FuncData} (F : Fun K "is_tuple_of" "is_tuple_of" sTof f fd) (T : MgP K mg fW) : FnOk P w K mg base CX0 1 f fd ["value", "many"] spTof := by
  refine F.ok scTof (fun vs H Q E h => ?_) (fun cdv A outer s H vs Q E hr h => ?_)
  · obtain ⟨g, v, d, n, rfl, _⟩ := h
    rfl
  · obtain ⟨g, v, d, n, rfl, hd, k⟩ := h
    obtain ⟨t, ht, k1, k2, k3, k4⟩ := hd.ty (K := K)
    refine ⟨_, pss_one (ps_ret (pe_and (pe_callB call_isi (by rfl) T.isi (by decide +kernel) (pa_cons (pv 0) (pa_cons (pe_bltn (v := .ty "tuple") (by rfl) T.tpl boot_tuple rfl) pa_nil)))
      (pe_one (pe_cmpR op_eq (pe_callB call_len_seq (by rfl) T.len PySem.boot_len (pa_cons (pv 0) pa_nil)) (pv 1) (nomark _))))), ?_⟩
    refine ⟨_, rfl, _, _, _, _, _, rfl, .ty "tuple", ht, k2, _, rfl, ?_⟩
    cases hd with
    | @tup a xs ds e h r =>
      refine iteT ⟨_, rfl, a, xs, rfl, .inr (SqT.of e), _, rfl, rfl, ?_⟩
      have q := k H (Same.refl H)
      have e2 : decide (V.int (xs.length : Nat) = V.int (n : Nat)) = lenIs n (.tup ds) := by
        rw [r.len]
        show _ = decide (ds.length = n)
        rw [decide_eq_decide]
        exact ⟨fun z => by injection z with z; omega, fun z => by rw [z]⟩
      rw [e2]
      exact q
    | int i => exact iteF (k H (Same.refl H))
    | bl b => exact iteF (k H (Same.refl H))
    | non => exact iteF (k H (Same.refl H))
    | str z => exact iteF (k H (Same.refl H))
    | lst _ _ _ _ => exact iteF (k H (Same.refl H))
    | dic _ => exact iteF (k H (Same.refl H))
theorem scTin : FnScope ["value", "low", "high"] ["value", "low", "high"] (defScope sTin) := ⟨rfl, rfl, rfl, by decide +kernel, rfl, by decide +kernel, by decide +kernel⟩
theorem ok_tin {f fW : Addr} {fd : FuncData} (F : Fun K "is_tuple_within" "is_tuple_within" sTin f fd) (T : MgP K mg fW) : FnOk P w K mg base CX0 1 f fd ["value", "low", "high"] spTin := by
  refine F.ok scTin (fun vs H Q E h => ?_) (fun cdv A outer s H vs Q E hr h => ?_)
  · obtain ⟨g, v, d, lo, hi, rfl, _⟩ := h
    rfl
  · obtain ⟨g, v, d, lo, hi, rfl, hd, k⟩ := h
    obtain ⟨t, ht, k1, k2, k3, k4⟩ := hd.ty (K := K)
    refine ⟨_, pss_one (ps_ret (pe_and (pe_callB call_isi (by rfl) T.isi (by decide +kernel) (pa_cons (pv 0) (pa_cons (pe_bltn (v := .ty "tuple") (by rfl) T.tpl boot_tuple rfl) pa_nil)))
      (pe_one (pe_chain op_le op_le (pv 1) (pe_callB call_len_seq (by rfl) T.len PySem.boot_len (pa_cons (pv 0) pa_nil)) (pv 2))))), ?_⟩
    refine ⟨_, rfl, _, _, _, _, _, rfl, .ty "tuple", ht, k2, _, rfl, ?_⟩
    cases hd with
    | @tup a xs ds e h r =>
      refine iteT ⟨_, rfl, _, rfl, a, xs, rfl, .inr (SqT.of e), _, _, rfl, rfl, _, rfl, ?_⟩
      have q := k H (Same.refl H)
      have e2 : lenIn lo hi (.tup ds) = (decide (lo ≤ (xs.length : Int)) && decide ((xs.length : Int) ≤ hi)) := by
        rw [r.len]
        rfl
      rw [e2] at q
      by_cases h1 : lo ≤ (xs.length : Int)
      · rw [decide_eq_true h1] at q ⊢
        exact iteT ⟨_, rfl, _, _, rfl, rfl, q⟩
      · rw [decide_eq_false h1] at q ⊢
        exact iteF q
    | int i => exact iteF (k H (Same.refl H))
    | bl b => exact iteF (k H (Same.refl H))
    | non => exact iteF (k H (Same.refl H))
    | str z => exact iteF (k H (Same.refl H))
    | lst _ _ _ _ => exact iteF (k H (Same.refl H))
    | dic _ => exact iteF (k H (Same.refl H))
end
end K80

set_option Elab.async false
set_option linter.all false
set_option pp.maxSteps 700
set_option maxRecDepth 100000
set_option maxHeartbeats 2000000
namespace K80
open PySem PySem.Spec PyProof.Rows L2
open TL (tl)
theorem freshF {H H1 : Hp} {o : Addr} {u : HO} (ho : H o = none) (e : upd H o u = H1) : Same H H1 ∧ H1 o = some u := by
  subst e
  exact ⟨same_new ho, upd_same⟩

theorem dpStrs {K : PySem.W.Frag} {H : Hp} : ∀ gs : List Str, DpAll K H (gs.map V.str) (gs.map PyData.str)
  | [] => .nil
  | x :: r => .cons (.str x) (dpStrs r)
theorem layStrs : ∀ gs : List Str, (∀ x ∈ gs, PyData.strOk x = true) → PyData.canLayAll0 (gs.map PyData.str) = true
  | [], _ => rfl
  | x :: r, h => by
    show (PyData.strOk x && PyData.canLayAll0 (r.map PyData.str)) = true
    rw [layStrs r fun y hy => h y (List.mem_cons_of_mem _ hy), h x List.mem_cons_self]
    rfl
theorem depStrs : ∀ gs : List Str, PyData.depthAll (gs.map PyData.str) = 0
  | [] => rfl
  | x :: r => by
    show max 0 (PyData.depthAll (r.map PyData.str)) = 0
    rw [depStrs r]
    rfl
theorem shStrs (gs : List Str) (h : ∀ x ∈ gs, PyData.strOk x = true) : SeqAt.shaped (.list (gs.map PyData.str)) = true := by
  unfold SeqAt.shaped
  show (PyData.canLayAll0 (gs.map PyData.str) && decide (PyData.depthAll (gs.map PyData.str) + 1 ≤ 64)) = true
  rw [layStrs gs h, depStrs]
  rfl
/-! ### data without lists -/
mutual
def pur : Dt → Bool
  | .tup l => purs l
  | .lst _ => false
  | .dic => false
  | .str s => PyData.strOk s
  | _ => true
def purs : List Dt → Bool
  | [] => true
  | d :: l => pur d && purs l
end
mutual
def dep : Dt → Nat
  | .tup l => deps l + 1
  | _ => 0
def deps : List Dt → Nat
  | [] => 0
  | d :: l => max (dep d) (deps l)
end
theorem deps_mem {l : List Dt} {d : Dt} : d ∈ l → dep d ≤ deps l := by
  induction l with
  | nil => intro h; cases h
  | cons x l ih =>
    intro h
    rcases List.mem_cons.mp h with rfl | h
    · exact Nat.le_max_left _ _
    · exact Nat.le_trans (ih h) (Nat.le_max_right _ _)
theorem deps_le {l : List Dt} {k : Nat} : (∀ d ∈ l, dep d ≤ k) → deps l ≤ k := by
  induction l with
  | nil => intro h; exact Nat.zero_le _
  | cons x l ih => exact fun h => Nat.max_le.mpr ⟨h x List.mem_cons_self, ih fun d hd => h d (List.mem_cons_of_mem _ hd)⟩
theorem purs_all {l : List Dt} : purs l = l.all pur := by
  induction l with
  | nil => rfl
  | cons x l ih => rw [List.all_cons, ← ih]; rfl
theorem purs_mem {l : List Dt} {d : Dt} (h : purs l = true) (m : d ∈ l) : pur d = true := by
  rw [purs_all] at h
  exact List.all_eq_true.mp h d m
/-- tuples stay -/
def Kt (H H' : Hp) : Prop := ∀ b xs, H b = some (.tup xs) → H' b = some (.tup xs)
theorem Kt.of {H H' : Hp} (s : Same H H') : Kt H H' := fun b xs e => s _ _ e
theorem Kt.put {H : Hp} {p : Addr} {o : HO} {l : List V} (h : H p = some (.lst l)) : Kt H (upd H p o) := fun b xs e => by
  rw [upd_ne (fun z => by rw [z, h] at e; cases e)]
  exact e
theorem Kt.kp {g d c : Addr} {H H' : Hp} {n : Nat} (S : StA H d g c n) (k : Kp d g H H') : Kt H H' := (Kv.kp S k).tup
mutual
theorem DV.keepP {g g' : Addr} {H H' : Hp} (k : Kt H H') : ∀ {v : V} {d : Dt}, pur d = true → DV g H v d → DV g' H' v d
  | _, _, _, .non => .non
  | _, _, _, .bl b => .bl b
  | _, _, _, .int i => .int i
  | _, _, _, .str h => .str h
  | _, _, p, .lst e n h r => by cases p
  | _, _, p, .tup e h r => .tup (k _ _ e) h (DVs.keepP k (by exact p) r)
  | _, _, p, .dic e => by cases p
theorem DVs.keepP {g g' : Addr} {H H' : Hp} (k : Kt H H') : ∀ {v : List V} {d : List Dt}, purs d = true → DVs g H v d → DVs g' H' v d
  | _, _, _, .nil => .nil
  | _, _, p, .cons h r => by
    have p : (pur _ && purs _) = true := p
    rw [Bool.and_eq_true] at p
    exact .cons (DV.keepP k p.1 h) (DVs.keepP k p.2 r)
end
theorem Kp.upF {d g p : Addr} {H H' : Hp} {o : HO} (k : Kp d g H H') (hp : H p = none) : Kp d g H (upd H' p o) := fun b u e h1 h2 => by
  rw [upd_ne (ne_of_none e hp)]
  exact k b u e h1 h2
theorem StA.upF {H : Hp} {d g c p : Addr} {n : Nat} {o : HO} (S : StA H d g c n) (h1 : p ≠ d) (h2 : p ≠ g) (h3 : p ≠ c) : StA (upd H p o) d g c n := by
  obtain ⟨r, tt, gs, cs, S⟩ := S
  exact ⟨r, tt, gs, cs, { S with dk := by rw [upd_ne h1.symm]; exact S.dk, gl := by rw [upd_ne h2.symm]; exact S.gl, cl := by rw [upd_ne h3.symm]; exact S.cl }⟩
theorem StA.free {H : Hp} {d g c : Addr} {n : Nat} (S : StA H d g c n) {p : Addr} (hp : H p = none) : p ≠ d ∧ p ≠ g ∧ p ≠ c := by
  obtain ⟨r, tt, gs, cs, S⟩ := S
  exact ⟨(ne_of_none S.dk hp).symm, (ne_of_none S.gl hp).symm, (ne_of_none S.cl hp).symm⟩
/-! ### values as data to be compared -/
mutual
def toPy : Dt → PyData
  | .non => .none
  | .bl b => .bool b
  | .int i => .int i
  | .str s => .str s
  | .lst l => .list (toPys l)
  | .tup l => .tuple (toPys l)
  | .dic => .dict []
def toPys : List Dt → List PyData
  | [] => []
  | d :: l => toPy d :: toPys l
end
theorem toPys_map {l : List Dt} : toPys l = l.map toPy := by
  induction l with
  | nil => rfl
  | cons x l ih => rw [List.map_cons, ← ih]; rfl
mutual
theorem dv_dp {K : PySem.W.Frag} {g : Addr} {H : Hp} : ∀ {v : V} {d : Dt}, pur d = true → DV g H v d → Dp K H v (toPy d)
  | _, _, _, .non => .non
  | _, _, _, .bl b => .bl b
  | _, _, _, .int i => .int i
  | _, _, _, .str h => .str _
  | _, _, p, .lst e n h r => by cases p
  | _, _, p, .tup e h r => .tup (SqT.of e) (dvs_dp (by exact p) r)
  | _, _, p, .dic e => by cases p
theorem dvs_dp {K : PySem.W.Frag} {g : Addr} {H : Hp} : ∀ {v : List V} {d : List Dt}, purs d = true → DVs g H v d → DpAll K H v (toPys d)
  | _, _, _, .nil => .nil
  | _, _, p, .cons h r => by
    have p : (pur _ && purs _) = true := p
    rw [Bool.and_eq_true] at p
    exact .cons (dv_dp p.1 h) (dvs_dp p.2 r)
end
mutual
theorem pur_lay : ∀ {d : Dt}, pur d = true → (toPy d).canLay0 = true ∧ (toPy d).depth = dep d
  | .non, _ => ⟨rfl, rfl⟩
  | .bl _, _ => ⟨rfl, rfl⟩
  | .int _, _ => ⟨rfl, rfl⟩
  | .str s, p => ⟨p, rfl⟩
  | .lst _, p => by cases p
  | .tup l, p => by
    obtain ⟨a, b⟩ := purs_lay (l := l) p
    refine ⟨a, ?_⟩
    show PyData.depthAll (toPys l) + 1 = deps l + 1
    rw [b]
  | .dic, p => by cases p
theorem purs_lay : ∀ {l : List Dt}, purs l = true → PyData.canLayAll0 (toPys l) = true ∧ PyData.depthAll (toPys l) = deps l
  | [], _ => ⟨rfl, rfl⟩
  | d :: l, p => by
    have p : (pur d && purs l) = true := p
    rw [Bool.and_eq_true] at p
    obtain ⟨a, b⟩ := pur_lay p.1
    obtain ⟨c, e⟩ := purs_lay p.2
    refine ⟨?_, ?_⟩
    · show ((toPy d).canLay0 && PyData.canLayAll0 (toPys l)) = true
      rw [a, c]
      rfl
    · show max (toPy d).depth (PyData.depthAll (toPys l)) = max (dep d) (deps l)
      rw [b, e]
end
theorem shaped_of {d : Dt} (p : pur d = true) (h : dep d ≤ 64) : SeqAt.shaped (toPy d) = true := by
  obtain ⟨a, b⟩ := pur_lay p
  unfold SeqAt.shaped
  rw [a, b, decide_eq_true h]
  rfl
theorem shaped_lst {l : List Dt} (p : purs l = true) (h : deps l ≤ 63) : SeqAt.shaped (.list (toPys l)) = true := by
  obtain ⟨a, b⟩ := purs_lay p
  unfold SeqAt.shaped
  show (PyData.canLayAll0 (toPys l) && decide (PyData.depthAll (toPys l) + 1 ≤ 64)) = true
  rw [a, b, decide_eq_true (by omega)]
  rfl
theorem eqv_self {d : Dt} (p : pur d = true) : PyData.eqv (toPy d) (toPy d) = true := PySem.SeqAt.eqv_refl _ (pur_lay p).1
theorem eqv_lst {l : List Dt} (p : purs l = true) : PyData.eqv (.list (toPys l)) (.list (toPys l)) = true := PySem.SeqAt.eqv_refl _ (purs_lay p).1
end K80

set_option Elab.async false
set_option linter.all false
set_option pp.maxSteps 900
set_option maxRecDepth 100000
set_option maxHeartbeats 4000000
namespace K80
open PySem PySem.Spec PyProof.Rows L2
open TL (tl)
abbrev sLs : Stmt := top 3
abbrev sCode : Stmt := top 11
abbrev sSta : Stmt := top 12
abbrev sMk : Stmt := top 13
abbrev sWd : Stmt := top 25
/-- a def that keeps its promise, and where it stands -/
def ClX (CX : CXT) (P : Program) (w : World) (K : PySem.W.Frag) (mg : Str → Option Value) (base : Heap) (x : Str) (ps : List Str) (k : Nat) (sp : Sp) : Prop :=
  ∃ f fd, FnOk P w K mg base CX k f fd ps sp ∧ mg x = some (.ref f) ∧ PySem.W.keepIn K (.ref f) = true ∧ L2.Binds K fd ps []
abbrev Cl (P : Program) (w : World) (K : PySem.W.Frag) (mg : Str → Option Value) (base : Heap) (x : Str) (ps : List Str) (k : Nat) (sp : Sp) : Prop := ClX CX0 P w K mg base x ps k sp
/-- the built-in names -/
structure Bn (mg : Str → Option Value) : Prop where
  isi : mg "isinstance" = none
  len : mg "len" = none
  str : mg "str" = none
  int : mg "int" = none
  bol : mg "bool" = none
  tpl : mg "tuple" = none
  lst : mg "list" = none
  all : mg "all" = none
  rng : mg "range" = none
  min : mg "min" = none
  zip : mg "zip" = none
  enu : mg "enumerate" = none
section
variable {g : Addr} {H : Hp} {v : V}
theorem DV.str_inv {s : Str} (h : DV g H v (.str s)) : v = .str s ∧ s.length ≤ 10000 := by
  cases h with
  | str h => exact ⟨rfl, h⟩
theorem DV.int_inv {i : Int} (h : DV g H v (.int i)) : v = .int i := by
  cases h with
  | int i => rfl
theorem DV.tup_inv {l : List Dt} (h : DV g H v (.tup l)) : ∃ b xs, v = .ref b ∧ H b = some (.tup xs) ∧ l.length ≤ 1000 ∧ DVs g H xs l := by
  cases h with
  | tup e h r => exact ⟨_, _, rfl, e, h, r⟩
theorem DV.tup2 {x y : Dt} (h : DV g H v (.tup [x, y])) : ∃ b vx vy, v = .ref b ∧ H b = some (.tup [vx, vy]) ∧ DV g H vx x ∧ DV g H vy y := by
  obtain ⟨b, xs, rfl, e, _, r⟩ := h.tup_inv
  cases r with
  | cons hx r =>
    cases r with
    | cons hy r =>
      cases r
      exact ⟨b, _, _, rfl, e, hx, hy⟩
theorem DV.tup3 {x y z : Dt} (h : DV g H v (.tup [x, y, z])) : ∃ b vx vy vz, v = .ref b ∧ H b = some (.tup [vx, vy, vz]) ∧ DV g H vx x ∧ DV g H vy y ∧ DV g H vz z := by
  obtain ⟨b, xs, rfl, e, _, r⟩ := h.tup_inv
  cases r with
  | cons hx r =>
    cases r with
    | cons hy r =>
      cases r with
      | cons hz r =>
        cases r
        exact ⟨b, _, _, _, rfl, e, hx, hy, hz⟩
end
section
variable {K : PySem.W.Frag}
/-- [f(x) for x in a tuple], f a question -/
theorem lc_tupB {g : Addr} {a : Addr} {xs : List V} {ds : List Dt} {f : Dt → Bool} {te : TE} {i : Nat} {vs : List Nat} {σ : L2.St} {H1 : Hp} {Q : Addr → Hp → Prop} (r : DVs g H1 xs ds) (e : H1 a = some (.tup xs)) (hl : ds.length ≤ 1000)
    (hw : ∀ x, wipe (List.set (wipe σ vs) i (some x)) vs = wipe σ vs)
    (step : ∀ (x : V) (d : Dt) (H2 : Hp) (R : VK), d ∈ ds → DV g H2 x d → Same H1 H2 → (∀ H3, Same H2 H3 → R (.bl (f d)) H3) → te (List.set (wipe σ vs) i (some x)) H2 R)
    (fin : ∀ (D : Addr) (H2 : Hp), Same H1 H2 → H2 D = some (.lst (ds.map fun d => V.bl (f d))) → Q D H2) :
    ∀ (D : Addr), H1 D = none → ∃ W : Nat → Nat → Hp → Prop, (∃ m, W 0 m (upd H1 D (HO.lst []))) ∧ ∀ (i' m : Nat) (H : Hp), W i' m H →
      (Itt K a).stop i' H ∧ Q D H ∨ (Itt K a).go i' H ∧ ∃ Nx : Hp → Prop, (∀ H', Nx H' → ∃ m', m' < m ∧ W (i' + 1) m' H') ∧ ∀ (x : V) (H' : Hp), (Itt K a).yld i' H x H' →
        gName i x (wipe σ vs) H' fun σ2 H2 => wipe σ2 vs = wipe σ vs ∧ tYes σ2 H2 fun b H3 => if b = true then te σ2 H3 fun y H4 => ∃ acc, H4 D = some (HO.lst acc) ∧ acc.length < sizeLine ∧ Nx (upd H4 D (HO.lst (acc ++ [y]))) else Nx H3 := by
  intro D hD
  have hlen := r.len
  refine lc_it (walk_tup (K := K) (a := a) (xs := xs)) (fun i H' => H' D = some (.lst ((ds.take i).map fun d => V.bl (f d))) ∧ Same H1 H') ⟨upd_same, same_new hD⟩ (fun _ _ _ h => SqT.of (h.2 _ _ e)) ?_ ?_
  · rintro j x H2 H2' hj ⟨h4, s1⟩ ⟨rfl, hx⟩
    obtain ⟨d, hd, hx2⟩ := r.at_ hx
    refine ⟨hw x, ?_⟩
    refine step x d _ _ (List.mem_of_getElem? hd) (hx2.keep (Kv.of s1)) s1 fun H3 s3 => ?_
    refine ⟨_, s3 _ _ h4, ?_, ?_, ?_⟩
    · rw [List.length_map, List.length_take, sizeLine_eq]
      omega
    · rw [upd_same, List.take_succ, hd, List.map_append]
      rfl
    · intro b o eb
      rw [upd_ne (ne_of_none eb hD)]
      exact s3 _ _ (s1 _ _ eb)
  · rintro H2 ⟨h4, s1⟩
    rw [hlen, List.take_length] at h4
    exact fin D H2 s1 h4
theorem all_bl {l : List Bool} : l.all id = true ↔ ∀ b ∈ l, b = true := by simp [List.all_eq_true]
theorem all_map {ds : List Dt} {f : Dt → Bool} : ((ds.map f).all id) = ds.all f := by
  induction ds with
  | nil => rfl
  | cons d ds ih => rw [List.map_cons, List.all_cons, List.all_cons, ih] <;> rfl
theorem sql_bl {H : Hp} {D : Addr} {ds : List Dt} {f : Dt → Bool} (h : H D = some (.lst (ds.map fun d => V.bl (f d)))) : SqL K H D ((ds.map f).map V.bl) := SqL.of (by rw [List.map_map]; exact h)
end
def isLst : Dt → Bool
  | .lst _ => true
  | .tup _ => true
  | _ => false
def stB : Dt → Bool
  | .tup [a, b] => intIn 0 5 a && intIn 0 999 b
  | _ => false
def marks3 : List Str := ["at", "first", "later"]
def inS (l : List Str) : Dt → Bool
  | .str s => decide (s ∈ l)
  | _ => false
def mkB : Dt → Bool
  | .tup [w, a, b] => inS marks3 w && (intIn 0 5 a && intIn 0 999 b)
  | _ => false
def flat : Dt → Bool
  | .lst _ => false
  | .tup _ => false
  | .dic => false
  | _ => true
def hdF : Dt → Bool
  | .tup (a :: _) => flat a
  | _ => true
def codeB : Dt → Bool
  | .tup [a, b, .tup l] => (intIn 0 5 a && intIn 0 999 b) && (decide (l.length ≤ 8) && l.all mkB)
  | _ => false
def codeF : Dt → Bool
  | .tup [_, _, .tup l] => l.all hdF
  | _ => true
def spIf (c f : Dt → Bool) : Sp := fun vs H Q _ => ∃ (g : Addr) (v : V) (d : Dt), vs = [v] ∧ DV g H v d ∧ c d = true ∧ ∀ H', Same H H' → Q (.bl (f d)) H'
theorem len1 {d : Dt} (h : lenIs 1 d = true) : ∃ p, d = .tup [p] := by
  cases d with
  | tup l =>
    have e : l.length = 1 := of_decide_eq_true h
    match l, e with
    | [p], _ => exact ⟨p, rfl⟩
  | _ => cases h
theorem len2 {d : Dt} (h : lenIs 2 d = true) : ∃ p q, d = .tup [p, q] := by
  cases d with
  | tup l =>
    have e : l.length = 2 := of_decide_eq_true h
    match l, e with
    | [p, q], _ => exact ⟨p, q, rfl⟩
  | _ => cases h
theorem len3 {d : Dt} (h : lenIs 3 d = true) : ∃ p q r, d = .tup [p, q, r] := by
  cases d with
  | tup l =>
    have e : l.length = 3 := of_decide_eq_true h
    match l, e with
    | [p, q, r], _ => exact ⟨p, q, r, rfl⟩
  | _ => cases h
theorem st_no {d : Dt} (h : lenIs 2 d = false) : stB d = false := by
  cases d with
  | tup l =>
    match l, h with
    | [], _ => rfl
    | [_], _ => rfl
    | [_, _], h => cases h
    | _ :: _ :: _ :: _, _ => rfl
  | _ => rfl
theorem mk_no {d : Dt} (h : lenIs 3 d = false) : mkB d = false := by
  cases d with
  | tup l =>
    match l, h with
    | [], _ => rfl
    | [_], _ => rfl
    | [_, _], _ => rfl
    | [_, _, _], h => cases h
    | _ :: _ :: _ :: _ :: _, _ => rfl
  | _ => rfl
theorem code_no {d : Dt} (h : lenIs 3 d = false) : codeB d = false := by
  cases d with
  | tup l =>
    match l, h with
    | [], _ => rfl
    | [_], _ => rfl
    | [_, _], _ => rfl
    | [_, _, _], h => cases h
    | _ :: _ :: c :: _ :: _, _ => cases c <;> rfl
  | _ => rfl
theorem inV_str {z : Str} {l : List Str} : inV (.str z) (l.map V.str) = decide (z ∈ l) := by
  unfold inV
  rw [List.any_map]
  induction l with
  | nil => rfl
  | cons a l ih =>
    rw [List.any_cons, ih]
    show ((a == z) || _) = _
    by_cases e : a = z
    · rw [e]
      simp
    · have e2 : (a == z) = false := by simpa using e
      have e3 : ¬ z = a := fun q => e q.symm
      rw [e2]
      simp [e3]
theorem flat_in {g : Addr} {H : Hp} {v : V} {d : Dt} (h : DV g H v d) (hf : flat d = true) (l : List Str) : flatV v = true ∧ (l.map V.str).all flatV = true ∧ inV v (l.map V.str) = inS l d := by
  refine ⟨?_, ?_, ?_⟩
  · cases h with
    | lst _ _ _ _ => cases hf
    | tup _ _ _ => cases hf
    | dic _ => cases hf
    | _ => rfl
  · rw [List.all_eq_true]
    intro x hx
    obtain ⟨y, _, rfl⟩ := List.mem_map.mp hx
    rfl
  · cases h with
    | lst _ _ _ _ => cases hf
    | tup _ _ _ => cases hf
    | dic _ => cases hf
    | str _ => exact inV_str
    | non =>
      unfold inV inS
      rw [List.any_eq_false]
      intro x hx
      obtain ⟨y, _, rfl⟩ := List.mem_map.mp hx
      exact Bool.false_ne_true
    | bl b =>
      unfold inV inS
      rw [List.any_eq_false]
      intro x hx
      obtain ⟨y, _, rfl⟩ := List.mem_map.mp hx
      exact Bool.false_ne_true
    | int i =>
      unfold inV inS
      rw [List.any_eq_false]
      intro x hx
      obtain ⟨y, _, rfl⟩ := List.mem_map.mp hx
      exact Bool.false_ne_true
theorem DV.tyL {K : PySem.W.Frag} {g : Addr} {H : Hp} {v : V} {d : Dt} (h : DV g H v d) : ∃ t, TyX K H v t ∧ PySem.W.kitAny K t [.type "list", .type "tuple"] = some (isLst d) := by
  have go : ∀ {t : Value} {a b : Bool}, PySem.W.kitOne K t (.type "list") = some a → PySem.W.kitOne K t (.type "tuple") = some b → PySem.W.kitAny K t [.type "list", .type "tuple"] = some (a || b) := by
    intro t a b h1 h2
    unfold PySem.W.kitAny
    rw [h1]
    cases a with
    | true => rfl
    | false =>
      show PySem.W.kitAny K t [.type "tuple"] = _
      unfold PySem.W.kitAny
      rw [h2]
      cases b <;> rfl
  cases h with
  | non => exact ⟨_, .base .non, go (kit_ty (show kitB "NoneType" "list" = some false by decide +kernel)) (kit_ty (show kitB "NoneType" "tuple" = some false by decide +kernel))⟩
  | bl b => exact ⟨_, .base (.bl _), go (kit_ty (show kitB "bool" "list" = some false by decide +kernel)) (kit_ty (show kitB "bool" "tuple" = some false by decide +kernel))⟩
  | int i => exact ⟨_, .base (.int _), go (kit_ty (show kitB "int" "list" = some false by decide +kernel)) (kit_ty (show kitB "int" "tuple" = some false by decide +kernel))⟩
  | str h => exact ⟨_, .base (.str _), go (kit_ty (show kitB "str" "list" = some false by decide +kernel)) (kit_ty (show kitB "str" "tuple" = some false by decide +kernel))⟩
  | lst e n h r => exact ⟨_, .base (.lst e), go (kit_ty (show kitB "list" "list" = some true by decide +kernel)) (kit_ty (show kitB "list" "tuple" = some false by decide +kernel))⟩
  | tup e h r => exact ⟨_, .base (.tup e), go (kit_ty (show kitB "tuple" "list" = some false by decide +kernel)) (kit_ty (show kitB "tuple" "tuple" = some true by decide +kernel))⟩
  | dic e => exact ⟨_, .base (.dK e), go (kit_ty (show kitB "dict" "list" = some false by decide +kernel)) (kit_ty (show kitB "dict" "tuple" = some false by decide +kernel))⟩
section
variable {P : Program} {w : World} {K : PySem.W.Frag} {mg : Str → Option Value} {base : Heap}
theorem scLs : FnScope ["value"] ["value"] (defScope sLs) := ⟨rfl, rfl, rfl, by decide +kernel, rfl, by decide +kernel, by decide +kernel⟩
theorem ok_ls {f : Addr} {fd : FuncData} (F : Fun K "is_list" "is_list" sLs f fd) (T : Bn mg) : FnOk P w K mg base CX0 1 f fd ["value"] (spAsk isLst) := by
  refine F.ok scLs (fun vs H Q E h => ?_) (fun cdv A outer s H vs Q E hr h => ?_)
  · obtain ⟨g, v, d, rfl, _⟩ := h
    rfl
  · obtain ⟨g, v, d, rfl, hd, k⟩ := h
    refine ⟨_, (pss_one (ps_ret (pe_callB call_isiT (by rfl) T.isi (by decide +kernel) (pa_cons (pv 0) (pa_cons (pe_tup (pa_cons (pe_bltn (v := .ty "list") (by rfl) T.lst boot_list rfl) (pa_cons (pe_bltn (v := .ty "tuple") (by rfl) T.tpl boot_tuple rfl) pa_nil))) pa_nil))))), ?_⟩
    refine ⟨_, rfl, (by show 2 ≤ sizeLine; decide), fun c hc => ?_⟩
    generalize hH1 : upd H c _ = H1
    obtain ⟨sc, ec⟩ := freshF hc hH1
    obtain ⟨t, ht, k1⟩ := (hd.keep (Kv.of sc)).tyL (K := K)
    exact ⟨_, c, _, t, _, _, rfl, ec, .cons (.ty "list") (.cons (.ty "tuple") .nil), ht, k1, k H1 sc⟩
theorem scSta : FnScope ["value"] ["value"] (defScope sSta) := ⟨rfl, rfl, rfl, by decide +kernel, rfl, by decide +kernel, by decide +kernel⟩
theorem ok_sta {f : Addr} {fd : FuncData} (F : Fun K "is_station" "is_station" sSta f fd) (T : Bn mg) (cTof : Cl P w K mg base "is_tuple_of" ["value", "many"] 1 spTof) (cWin : Cl P w K mg base "is_within" ["value", "low", "high"] 2 spWin)
    (g5 : ∃ t, mg "MOST_FUNCTION" = some (.int 5 t)) (g9 : ∃ t, mg "MOST_NUMBER" = some (.int 999 t)) : FnOk P w K mg base CX0 3 f fd ["value"] (spAsk stB) := by
  obtain ⟨fTof, fdTof, GTof, mTof, kTof, bTof⟩ := cTof
  obtain ⟨fWin, fdWin, GWin, mWin, kWin, bWin⟩ := cWin
  obtain ⟨t5, e5⟩ := g5
  obtain ⟨t9, e9⟩ := g9
  refine F.ok scSta (fun vs H Q E h => ?_) (fun cdv A outer s H vs Q E hr h => ?_)
  · obtain ⟨g, v, d, rfl, _⟩ := h
    rfl
  · obtain ⟨g, v, d, rfl, hd, k⟩ := h
    have hr1 : Room 1 _ := hr.mono (by decide)
    have hr2 : Room 2 _ := hr.mono (by decide)
    refine ⟨_, (pss_one (ps_ret (pe_and (pe_call GTof hr1 (by rfl) mTof kTof bTof .nil pass0 (pa_cons (pv 0) (pa_cons pe_int pa_nil))) (pe_and (pe_call GWin hr2 (by rfl) mWin kWin bWin .nil pass0 (pa_cons (pe_ix ix_tup (pv 0) pe_int (fun _ _ => rfl)) (pa_cons pe_int (pa_cons (pe_glob (v := .int 5) (by rfl) e5 ⟨_, rfl⟩) pa_nil)))) (pe_one (pe_call GWin hr2 (by rfl) mWin kWin bWin .nil pass0 (pa_cons (pe_ix ix_tup (pv 0) pe_int (fun _ _ => rfl)) (pa_cons pe_int (pa_cons (pe_glob (v := .int 999) (by rfl) e9 ⟨_, rfl⟩) pa_nil))))))))), ?_⟩
    refine ⟨_, rfl, g, v, d, 2, rfl, hd, fun H1 s1 => ⟨_, rfl, ?_⟩⟩
    cases h2 : lenIs 2 d with
    | false =>
      rw [st_no h2] at k
      exact iteF (k H1 s1)
    | true =>
      obtain ⟨p, q, rfl⟩ := len2 h2
      obtain ⟨b, vx, vy, rfl, eb, hp, hq⟩ := (hd.keep (Kv.of s1)).tup2
      have e0 : stB (.tup [p, q]) = (intIn 0 5 p && intIn 0 999 q) := rfl
      rw [e0] at k
      refine iteT ⟨_, rfl, b, _, 0, _, rfl, rfl, SqT.of eb, rfl, g, vx, p, 0, 5, rfl, hp, fun H2 s2 => ⟨_, rfl, ?_⟩⟩
      cases n1 : intIn 0 5 p with
      | false =>
        rw [n1] at k
        exact iteF (k H2 (s1.trans s2))
      | true =>
        rw [n1] at k
        exact iteT ⟨_, rfl, b, _, 1, _, rfl, rfl, SqT.of (s2 _ _ eb), rfl, g, vy, q, 0, 999, rfl, hq.keep (Kv.of s2), fun H3 s3 => k H3 ((s1.trans s2).trans s3)⟩
theorem scMk : FnScope ["value"] ["value"] (defScope sMk) := ⟨rfl, rfl, rfl, by decide +kernel, rfl, by decide +kernel, by decide +kernel⟩
theorem ok_mk {f : Addr} {fd : FuncData} (F : Fun K "is_mark" "is_mark" sMk f fd) (T : Bn mg) (cTof : Cl P w K mg base "is_tuple_of" ["value", "many"] 1 spTof) (cSta : Cl P w K mg base "is_station" ["value"] 3 (spAsk stB))
    (gM : ∃ a, mg "MARKS" = some (.ref a) ∧ ∀ H, SqT K H a (marks3.map V.str)) : FnOk P w K mg base CX0 4 f fd ["value"] (spIf hdF mkB) := by
  obtain ⟨fTof, fdTof, GTof, mTof, kTof, bTof⟩ := cTof
  obtain ⟨fSta, fdSta, GSta, mSta, kSta, bSta⟩ := cSta
  obtain ⟨aM, eM, qM⟩ := gM
  refine F.ok scMk (fun vs H Q E h => ?_) (fun cdv A outer s H vs Q E hr h => ?_)
  · obtain ⟨g, v, d, rfl, _⟩ := h
    rfl
  · obtain ⟨g, v, d, rfl, hd, hf, k⟩ := h
    have hr1 : Room 1 _ := hr.mono (by decide)
    have hr3 : Room 3 _ := hr.mono (by decide)
    refine ⟨_, (pss_one (ps_ret (pe_and (pe_call GTof hr1 (by rfl) mTof kTof bTof .nil pass0 (pa_cons (pv 0) (pa_cons pe_int pa_nil))) (pe_and (pe_cmpR op_in_seq (pe_ix ix_tup (pv 0) pe_int (fun _ _ => rfl)) (pe_glob (v := .ref aM) (by rfl) eM rfl) (by rfl)) (pe_one (pe_call GSta hr3 (by rfl) mSta kSta bSta .nil pass0 (pa_cons (pe_slice sl_tupA (pv 0) (po_some pe_int) po_none) pa_nil))))))), ?_⟩
    refine ⟨_, rfl, g, v, d, 3, rfl, hd, fun H1 s1 => ⟨_, rfl, ?_⟩⟩
    cases h3 : lenIs 3 d with
    | false =>
      rw [mk_no h3] at k
      exact iteF (k H1 s1)
    | true =>
      obtain ⟨p, q, r, rfl⟩ := len3 h3
      obtain ⟨b, vx, vy, vz, rfl, eb, hp, hq, hz⟩ := (hd.keep (Kv.of s1)).tup3
      have e0 : mkB (.tup [p, q, r]) = (inS marks3 p && (intIn 0 5 q && intIn 0 999 r)) := rfl
      rw [e0] at k
      obtain ⟨f1, f2, f3⟩ := flat_in hp hf marks3
      refine iteT ⟨_, rfl, b, _, 0, _, rfl, rfl, SqT.of eb, rfl, aM, _, rfl, .inr (qM _), f1, f2, _, rfl, ?_⟩
      rw [show (if false = true then !inV vx (marks3.map V.str) else inV vx (marks3.map V.str)) = inS marks3 p from f3]
      cases n1 : inS marks3 p with
      | false =>
        rw [n1] at k
        exact iteF (k H1 s1)
      | true =>
        rw [n1] at k
        refine iteT ⟨_, rfl, _, rfl, b, _, rfl, SqT.of eb, (fun z => absurd z.1 (show ¬ HT.sIx 3 0 (some 1) = 0 by decide)), fun _ c hc => ?_⟩
        rw [show cutV [vx, vy, vz] (some 1) none = [vy, vz] from rfl]
        generalize hH2 : upd H1 c _ = H2
        obtain ⟨sc, ec⟩ := freshF hc hH2
        refine ⟨g, .ref c, .tup [q, r], rfl, .tup ec (by show 2 ≤ 1000; decide) (.cons (hq.keep (Kv.of sc)) (.cons (hz.keep (Kv.of sc)) .nil)), fun H3 s3 => ?_⟩
        exact k H3 ((s1.trans sc).trans s3)
theorem scCode : FnScope ["value", "way", "mark"] ["value"] (defScope sCode) := ⟨rfl, rfl, rfl, by decide +kernel, rfl, by decide +kernel, by decide +kernel⟩
theorem ok_code {f : Addr} {fd : FuncData} (F : Fun K "is_code_label" "is_code_label" sCode f fd) (T : Bn mg) (cTof : Cl P w K mg base "is_tuple_of" ["value", "many"] 1 spTof) (cTin : Cl P w K mg base "is_tuple_within" ["value", "low", "high"] 1 spTin)
    (cSta : Cl P w K mg base "is_station" ["value"] 3 (spAsk stB)) (cMk : Cl P w K mg base "is_mark" ["value"] 4 (spIf hdF mkB)) (g8 : ∃ t, mg "MOST_MARKS" = some (.int 8 t)) : FnOk P w K mg base CX0 5 f fd ["value"] (spIf codeF codeB) := by
  obtain ⟨fTof, fdTof, GTof, mTof, kTof, bTof⟩ := cTof
  obtain ⟨fTin, fdTin, GTin, mTin, kTin, bTin⟩ := cTin
  obtain ⟨fSta, fdSta, GSta, mSta, kSta, bSta⟩ := cSta
  obtain ⟨fMk, fdMk, GMk, mMk, kMk, bMk⟩ := cMk
  obtain ⟨t8, e8⟩ := g8
  refine F.ok scCode (fun vs H Q E h => ?_) (fun cdv A outer s H vs Q E hr h => ?_)
  · obtain ⟨g, v, d, rfl, _⟩ := h
    rfl
  · obtain ⟨g, v, d, rfl, hd, hf, k⟩ := h
    have hr1 : Room 1 _ := hr.mono (by decide)
    have hr3 : Room 3 _ := hr.mono (by decide)
    have hr4 : Room 4 _ := hr.mono (by decide)
    refine ⟨_, (pss_cons (ps_if (PW.pt (pw_or (pt_not (pt_val (pe_call GTof hr1 (by rfl) mTof kTof bTof .nil pass0 (pa_cons (pv 0) (pa_cons pe_int pa_nil))))) (pw_or1 (pt_not (pt_val (pe_call GSta hr3 (by rfl) mSta kSta bSta .nil pass0 (pa_cons (pe_slice sl_tupA (pv 0) po_none (po_some pe_int)) pa_nil))))))) (pss_one (ps_ret pe_bl)) pss_nil)
      (pss_cons (ps_set (i := 1) scCode.nd rfl (Or.inl rfl) (pe_ix ix_tup (pv 0) pe_int (fun _ _ => rfl)))
      (pss_one (ps_ret (pe_and (pe_call GTin hr1 (by rfl) mTin kTin bTin .nil pass0 (pa_cons (pv 1) (pa_cons pe_int (pa_cons (pe_glob (v := .int 8) (by rfl) e8 ⟨_, rfl⟩) pa_nil)))) (pe_one (pe_callB (cr_all rfl) (by rfl) T.all (by decide +kernel) (pa_cons (pe_lc (own := [("mark", 2)]) (g := gName 2) (tt := tYes) (by rfl) scCode.nd (pi_tup (pv 1)) (blkOk_by (own := [("mark", 2)]) (N := ["value", "way", "mark"]) (sc := defScope sCode) (by decide +kernel)) (fun _ _ _ _ _ => (pg_name (i := 2) scCode.nd rfl (Or.inl rfl))) (fun _ _ _ _ _ => pts_nil) (fun _ _ _ _ _ => (pe_call GMk hr4 (by rfl) mMk kMk bMk .nil pass0 (pa_cons (pv 2) pa_nil)))) pa_nil)))))))), ?_⟩
    refine ⟨_, rfl, g, v, d, 3, rfl, hd, fun H1 s1 => ⟨_, rfl, ?_⟩⟩
    cases h3 : lenIs 3 d with
    | false =>
      rw [code_no h3] at k
      exact iteT (k H1 s1)
    | true =>
      obtain ⟨p, q, r, rfl⟩ := len3 h3
      obtain ⟨b, vx, vy, vz, rfl, eb, hp, hq, hz⟩ := (hd.keep (Kv.of s1)).tup3
      refine iteF ⟨_, rfl, _, rfl, b, _, rfl, SqT.of eb, (fun z => absurd z.2 (show ¬ HT.sIx 3 3 (some 2) = 3 by decide)), fun _ c hc => ?_⟩
      rw [show cutV [vx, vy, vz] none (some 2) = [vx, vy] from rfl]
      generalize hH2 : upd H1 c _ = H2
      obtain ⟨sc, ec⟩ := freshF hc hH2
      refine ⟨g, .ref c, .tup [p, q], rfl, .tup ec (by show 2 ≤ 1000; decide) (.cons (hp.keep (Kv.of sc)) (.cons (hq.keep (Kv.of sc)) .nil)), fun H3 s3 => ⟨_, rfl, ?_⟩⟩
      have s13 := (s1.trans sc).trans s3
      have eb3 := s3 _ _ (sc _ _ eb)
      have hz3 := hz.keep (Kv.of (sc.trans s3))
      cases n1 : stB (.tup [p, q]) with
      | false =>
        have n1' : (intIn 0 5 p && intIn 0 999 q) = false := n1
        have e0 : codeB (.tup [p, q, r]) = false := by
          cases r with
          | tup l =>
            show ((intIn 0 5 p && intIn 0 999 q) && _) = false
            rw [n1']
            rfl
          | _ => rfl
        rw [e0] at k
        exact iteT (k H3 s13)
      | true =>
        have n1' : (intIn 0 5 p && intIn 0 999 q) = true := n1
        refine iteF ⟨_, rfl, b, _, 2, _, rfl, rfl, SqT.of eb3, rfl, ?_⟩
        refine ⟨_, rfl, g, vz, r, 0, 8, rfl, hz3, fun H4 s4 => ⟨_, rfl, ?_⟩⟩
        have s14 := s13.trans s4
        have hz4 := hz3.keep (Kv.of s4)
        cases r with
        | tup l =>
          have e0 : codeB (.tup [p, q, .tup l]) = (decide (l.length ≤ 8) && l.all mkB) := by
            show ((intIn 0 5 p && intIn 0 999 q) && _) = _
            rw [n1']
            rfl
          have e1 : lenIn 0 8 (.tup l) = decide (l.length ≤ 8) := by
            show (decide ((0 : Int) ≤ (l.length : Int)) && decide ((l.length : Int) ≤ 8)) = _
            rw [decide_eq_true (show (0 : Int) ≤ (l.length : Int) by omega), Bool.true_and, decide_eq_decide]
            omega
          rw [e0] at k
          rw [e1]
          cases n2 : decide (l.length ≤ 8) with
          | false =>
            rw [n2] at k
            exact iteF (k H4 s14)
          | true =>
            rw [n2] at k
            obtain ⟨a, xs, rfl, ea, hl, rr⟩ := hz4.tup_inv
            have hf' : l.all hdF = true := hf
            refine iteT ⟨_, rfl, a, rfl, ⟨_, SqT.of ea⟩, ?_⟩
            refine lc_tupB (K := K) (f := mkB) (i := 2) (vs := [2]) rr ea hl ?_ ?_ ?_
            · exact fun x => rfl
            · intro x d H2' R hm hx s2 hR
              exact ⟨_, rfl, g, x, d, rfl, hx, List.all_eq_true.mp hf' _ hm, hR⟩
            · intro D H5 s5 hD
              refine ⟨D, l.map mkB, rfl, sql_bl hD, ?_⟩
              rw [all_map]
              exact k H5 (s14.trans s5)
        | non => exact iteF (k H4 s14)
        | bl _ => exact iteF (k H4 s14)
        | int _ => exact iteF (k H4 s14)
        | str _ => exact iteF (k H4 s14)
        | lst _ => exact iteF (k H4 s14)
        | dic => exact iteF (k H4 s14)
end
end K80

set_option Elab.async false
set_option linter.all false
set_option pp.maxSteps 900
set_option maxRecDepth 100000
set_option maxHeartbeats 4000000
namespace K80
open PySem PySem.Spec PyProof.Rows L2
open TL (tl)
/-! ### wholes without zeros ahead, pairs, labels: what their texts are, what a text tells -/
def dig (c : Nat) : Bool := decide (48 ≤ c) && decide (c ≤ 57)
theorem dig_iff {c : Nat} : dig c = true ↔ 48 ≤ c ∧ c ≤ 57 := by
  unfold dig
  rw [Bool.and_eq_true, decide_eq_true_iff, decide_eq_true_iff]
def D10 : Str := "0123456789"
theorem mem_D10 {c : Nat} : decide (c ∈ D10.cps.toList) = dig c := by
  have e : D10.cps.toList = [48, 49, 50, 51, 52, 53, 54, 55, 56, 57] := by decide +kernel
  rw [e]
  unfold dig
  rw [← Bool.decide_and, decide_eq_decide]
  simp only [List.mem_cons, List.not_mem_nil, or_false]
  omega
abbrev dv (l : List Nat) : Nat := NumText.digitsVal l
/-- a row of digits: not empty, at most n, no zero ahead of others -/
def canon (n : Nat) (l : List Nat) : Bool := decide (1 ≤ l.length) && (decide (l.length ≤ n) && (l.all dig && !(decide (l.getD 0 0 = 48) && !decide (l = [48]))))
def whl (l : List Nat) : Option Nat := if canon 30 l = true then some (dv l) else none
/-- what stands ahead of the first point, and behind it -/
def pt : List Nat → List Nat × Option (List Nat)
  | [] => ([], none)
  | c :: r => if c = 46 then ([], some r) else (c :: (pt r).1, (pt r).2)
def pairOf (l : List Nat) : Option (Nat × Nat) :=
  match (pt l).2 with
  | none => none
  | some b => match whl (pt l).1, whl b with
    | some f, some k => if f ≤ 5 ∧ k ≤ 999 then some (f, k) else none
    | _, _ => none
def sgn (c : Nat) : Bool := decide (c = 64) || (decide (c = 60) || decide (c = 62))
/-- the first piece, and behind each sign the next one -/
def segs : List Nat → List Nat × List (Nat × List Nat)
  | [] => ([], [])
  | c :: r => if sgn c = true then ([], (c, (segs r).1) :: (segs r).2) else (c :: (segs r).1, (segs r).2)
abbrev Lab := (Nat × Nat) × List (Nat × Nat × Nat)
def marksOf : List (Nat × List Nat) → Option (List (Nat × Nat × Nat))
  | [] => some []
  | (s, p) :: r => match pairOf p, marksOf r with
    | some (f, k), some m => some ((s, f, k) :: m)
    | _, _ => none
def labOf (l : List Nat) : Option Lab :=
  if (segs l).2.length ≤ 8 then
    match pairOf (segs l).1, marksOf (segs l).2 with
    | some p, some m => some (p, m)
    | _, _ => none
  else none
/-! ### texts -/
def nT (n : Nat) : Str := Str.ofString (toString (n : Int))
def ptS : Str := "."
def pairT (f k : Nat) : Str := nT f ++ ptS ++ nT k
def sgS (s : Nat) : Str := ⟨#[s]⟩
def marksT : List (Nat × Nat × Nat) → List Nat
  | [] => []
  | (s, f, k) :: r => s :: (tl (pairT f k) ++ marksT r)
def labL (L : Lab) : List Nat := tl (pairT L.1.1 L.1.2) ++ marksT L.2
def labT (L : Lab) : Str := ⟨(labL L).toArray⟩
def okP (f k : Nat) : Prop := f ≤ 5 ∧ k ≤ 999
def okL (L : Lab) : Prop := okP L.1.1 L.1.2 ∧ L.2.length ≤ 8 ∧ ∀ m ∈ L.2, sgn m.1 = true ∧ okP m.2.1 m.2.2
theorem str_ext {x y : Str} (h : tl x = tl y) : x = y := TL.ext_tl h
theorem sgn_iff {c : Nat} : sgn c = true ↔ c = 64 ∨ c = 60 ∨ c = 62 := by
  unfold sgn
  simp only [Bool.or_eq_true, decide_eq_true_iff]
theorem nT_ok : ∀ n : Fin 1000, (canon 3 (tl (nT n.val)) && decide (dv (tl (nT n.val)) = n.val)) = true := by decide +kernel
theorem nT_ok' {n : Nat} (h : n ≤ 999) : canon 3 (tl (nT n)) = true ∧ dv (tl (nT n)) = n := by
  have := nT_ok ⟨n, by omega⟩
  rw [Bool.and_eq_true, decide_eq_true_iff] at this
  exact this
theorem canon_parts {n : Nat} {l : List Nat} (h : canon n l = true) : 1 ≤ l.length ∧ l.length ≤ n ∧ (∀ c ∈ l, dig c = true) ∧ (l.getD 0 0 = 48 → l = [48]) := by
  unfold canon at h
  simp only [Bool.and_eq_true, decide_eq_true_iff, Bool.not_eq_true', Bool.and_eq_false_iff, decide_eq_false_iff_not, Bool.not_eq_false'] at h
  obtain ⟨h1, h2, h3, h4⟩ := h
  refine ⟨h1, h2, fun c hc => List.all_eq_true.mp h3 c hc, fun e => ?_⟩
  rcases h4 with h4 | h4
  · exact absurd e h4
  · exact h4
theorem canon_of {n : Nat} {l : List Nat} (h1 : 1 ≤ l.length) (h2 : l.length ≤ n) (h3 : ∀ c ∈ l, dig c = true) (h4 : l.getD 0 0 = 48 → l = [48]) : canon n l = true := by
  unfold canon
  simp only [Bool.and_eq_true, decide_eq_true_iff, Bool.not_eq_true', Bool.and_eq_false_iff, decide_eq_false_iff_not, Bool.not_eq_false']
  refine ⟨h1, h2, List.all_eq_true.mpr h3, ?_⟩
  by_cases e : l.getD 0 0 = 48
  · exact .inr (h4 e)
  · exact .inl e
theorem canon_mono {n m : Nat} {l : List Nat} (h : canon n l = true) (hm : n ≤ m) : canon m l = true := by
  obtain ⟨h1, h2, h3, h4⟩ := canon_parts h
  exact canon_of h1 (by omega) h3 h4
theorem dv_ge : ∀ (r : List Nat) (a : Nat), a * 10 ^ r.length ≤ r.foldl (fun acc c => acc * 10 + (c - 48)) a
  | [], a => by simp
  | c :: r, a => by
    rw [List.foldl_cons, List.length_cons, Nat.pow_succ]
    refine Nat.le_trans ?_ (dv_ge r _)
    rw [show a * (10 ^ r.length * 10) = (a * 10) * 10 ^ r.length by rw [Nat.mul_comm (10 ^ r.length), Nat.mul_assoc]]
    exact Nat.mul_le_mul_right _ (by omega)
/-- four signs and more are above 999 -/
theorem dv_long {n : Nat} {l : List Nat} (h : canon n l = true) (hl : 4 ≤ l.length) : 1000 ≤ dv l := by
  obtain ⟨h1, h2, h3, h4⟩ := canon_parts h
  match l, hl with
  | c :: d :: e :: f :: r, _ =>
    have hc := dig_iff.mp (h3 c (by simp))
    have c0 : c ≠ 48 := fun z => by
      have := h4 z
      simp at this
    show 1000 ≤ (c :: d :: e :: f :: r).foldl (fun acc c => acc * 10 + (c - 48)) 0
    rw [List.foldl_cons]
    have := dv_ge (d :: e :: f :: r) (0 * 10 + (c - 48))
    refine Nat.le_trans ?_ this
    have p : (d :: e :: f :: r).length = r.length + 3 := rfl
    rw [p, Nat.pow_add]
    have q : 1 ≤ 10 ^ r.length := Nat.pos_of_ne_zero (by simp)
    have : 1 * (1 * 10 ^ 3) ≤ (0 * 10 + (c - 48)) * (10 ^ r.length * 10 ^ 3) := Nat.mul_le_mul (by omega) (Nat.mul_le_mul_right _ q)
    simpa using this
/-- the law's own question of a whole's text -/
def lw (most : Nat) (l : List Nat) : Bool := canon 3 l && decide (dv l ≤ most)
theorem lw_whl {most : Nat} (hm : most ≤ 999) {l : List Nat} : (∃ v, whl l = some v ∧ v ≤ most) ↔ lw most l = true := by
  unfold lw
  rw [Bool.and_eq_true, decide_eq_true_iff]
  constructor
  · rintro ⟨v, h, hv⟩
    unfold whl at h
    by_cases hc : canon 30 l = true
    · rw [if_pos hc] at h
      obtain rfl := Option.some.inj h
      obtain ⟨h1, h2, h3, h4⟩ := canon_parts hc
      refine ⟨canon_of h1 ?_ h3 h4, hv⟩
      by_cases h5 : l.length ≤ 3
      · exact h5
      · have := dv_long hc (by omega)
        omega
    · rw [if_neg hc] at h
      cases h
  · rintro ⟨h1, h2⟩
    exact ⟨dv l, if_pos (canon_mono h1 (by decide)), h2⟩
theorem whl_dv {l : List Nat} {v : Nat} (h : whl l = some v) : v = dv l := by
  unfold whl at h
  split at h
  · exact (Option.some.inj h).symm
  · cases h
theorem whl_dig {l : List Nat} {v : Nat} (h : whl l = some v) : ∀ c ∈ l, dig c = true := by
  unfold whl at h
  split at h
  · rename_i hc
    exact (canon_parts hc).2.2.1
  · cases h
theorem whl_nT {n : Nat} (h : n ≤ 999) : whl (tl (nT n)) = some n := by
  obtain ⟨h1, h2⟩ := nT_ok' h
  unfold whl
  rw [if_pos (canon_mono h1 (by decide)), h2]
/-! ### pairs -/
theorem pt_free : ∀ {l : List Nat}, 46 ∉ l → pt l = (l, none)
  | [], _ => rfl
  | c :: r, h => by
    have hc : c ≠ 46 := fun e => h (e ▸ List.mem_cons_self)
    have ih := pt_free (l := r) fun z => h (List.mem_cons_of_mem _ z)
    unfold pt
    rw [if_neg hc, ih]
theorem pt_at : ∀ {a b : List Nat}, 46 ∉ a → pt (a ++ 46 :: b) = (a, some b)
  | [], b, _ => rfl
  | c :: r, b, h => by
    have hc : c ≠ 46 := fun e => h (e ▸ List.mem_cons_self)
    have ih := pt_at (a := r) (b := b) fun z => h (List.mem_cons_of_mem _ z)
    rw [List.cons_append]
    unfold pt
    rw [if_neg hc, ih]
theorem cut_at {s : Nat} : ∀ {l : List Nat}, s ∈ l → ∃ a b, l = a ++ s :: b ∧ s ∉ a
  | c :: r, h => by
    by_cases hc : c = s
    · exact ⟨[], r, by rw [hc]; rfl, fun z => by cases z⟩
    · have h' : s ∈ r := by
        rcases List.mem_cons.mp h with e | e
        · exact absurd e.symm hc
        · exact e
      obtain ⟨a, b, e, ha⟩ := cut_at h'
      refine ⟨c :: a, b, by rw [e]; rfl, fun z => ?_⟩
      rcases List.mem_cons.mp z with z | z
      · exact hc z.symm
      · exact ha z
theorem pt_cases (l : List Nat) : (46 ∉ l ∧ pt l = (l, none)) ∨ ∃ a b, l = a ++ 46 :: b ∧ 46 ∉ a ∧ pt l = (a, some b) := by
  by_cases h : 46 ∈ l
  · obtain ⟨a, b, rfl, ha⟩ := cut_at h
    exact .inr ⟨a, b, rfl, ha, pt_at ha⟩
  · exact .inl ⟨h, pt_free h⟩
theorem nT_free {n : Nat} (h : n ≤ 999) {c : Nat} (hc : dig c = false) : c ∉ tl (nT n) := fun z => by
  have := (canon_parts (nT_ok' h).1).2.2.1 c z
  rw [hc] at this
  cases this
theorem tl_pairT (f k : Nat) : tl (pairT f k) = tl (nT f) ++ 46 :: tl (nT k) := by
  unfold pairT
  rw [TL.tl_append, TL.tl_append]
  have : tl ptS = [46] := by decide +kernel
  rw [this, List.append_assoc]
  rfl
theorem pair_T {f k : Nat} (h : okP f k) : pairOf (tl (pairT f k)) = some (f, k) := by
  unfold pairOf
  rw [tl_pairT, pt_at (nT_free (by have := h.1; omega) (by decide))]
  show (match whl (tl (nT f)), whl (tl (nT k)) with
    | some f, some k => if f ≤ 5 ∧ k ≤ 999 then some (f, k) else none
    | _, _ => none) = _
  rw [whl_nT (by have := h.1; omega), whl_nT h.2]
  exact if_pos h
theorem pairT_free {f k c : Nat} (h : okP f k) (hc : dig c = false) (h46 : c ≠ 46) : c ∉ tl (pairT f k) := fun z => by
  rw [tl_pairT] at z
  rcases List.mem_append.mp z with z | z
  · exact nT_free (by have := h.1; omega) hc z
  · rcases List.mem_cons.mp z with z | z
    · exact h46 z
    · exact nT_free h.2 hc z
theorem pairT_len {f k : Nat} (h : okP f k) : (tl (pairT f k)).length ≤ 7 ∧ 1 ≤ (tl (pairT f k)).length := by
  have h1 := (canon_parts (nT_ok' (show f ≤ 999 by have := h.1; omega)).1).2.1
  have h2 := (canon_parts (nT_ok' h.2).1).2.1
  rw [tl_pairT, List.length_append, List.length_cons]
  omega
/-! ### labels -/
theorem segs_free : ∀ {a : List Nat}, (∀ c ∈ a, sgn c = false) → ∀ b, segs (a ++ b) = (a ++ (segs b).1, (segs b).2)
  | [], _, b => rfl
  | c :: r, h, b => by
    rw [List.cons_append]
    show (if sgn c = true then _ else _) = _
    rw [if_neg (by rw [h c List.mem_cons_self]; exact Bool.false_ne_true), segs_free (fun d hd => h d (List.mem_cons_of_mem _ hd)) b]
    rfl
theorem segs_sgn {c : Nat} (h : sgn c = true) (r : List Nat) : segs (c :: r) = ([], (c, (segs r).1) :: (segs r).2) := if_pos h
theorem sgn_dig {c : Nat} (h : sgn c = true) : dig c = false ∧ c ≠ 46 := by
  rcases sgn_iff.mp h with rfl | rfl | rfl <;> decide
theorem pairT_sgn {f k : Nat} (h : okP f k) : ∀ c ∈ tl (pairT f k), sgn c = false := fun c hc => by
  cases e : sgn c with
  | false => rfl
  | true =>
    obtain ⟨h1, h2⟩ := sgn_dig e
    exact absurd hc (pairT_free h h1 h2)
theorem segs_marks : ∀ {m : List (Nat × Nat × Nat)}, (∀ x ∈ m, sgn x.1 = true ∧ okP x.2.1 x.2.2) → segs (marksT m) = ([], m.map fun x => (x.1, tl (pairT x.2.1 x.2.2)))
  | [], _ => rfl
  | (s, f, k) :: r, h => by
    obtain ⟨h1, h2⟩ := h (s, f, k) List.mem_cons_self
    have ih := segs_marks (m := r) fun x hx => h x (List.mem_cons_of_mem _ hx)
    show segs (s :: (tl (pairT f k) ++ marksT r)) = _
    rw [segs_sgn h1, segs_free (pairT_sgn h2), ih, List.append_nil]
    rfl
theorem marks_T : ∀ {m : List (Nat × Nat × Nat)}, (∀ x ∈ m, sgn x.1 = true ∧ okP x.2.1 x.2.2) → marksOf (m.map fun x => (x.1, tl (pairT x.2.1 x.2.2))) = some m
  | [], _ => rfl
  | (s, f, k) :: r, h => by
    obtain ⟨h1, h2⟩ := h (s, f, k) List.mem_cons_self
    have ih := marks_T (m := r) fun x hx => h x (List.mem_cons_of_mem _ hx)
    rw [List.map_cons]
    show (match pairOf (tl (pairT f k)), marksOf (r.map _) with
      | some (f, k), some m => some ((s, f, k) :: m)
      | _, _ => none) = _
    rw [pair_T h2, ih]
theorem lab_T {L : Lab} (h : okL L) : labOf (labL L) = some L := by
  obtain ⟨h1, h2, h3⟩ := h
  have e : segs (labL L) = (tl (pairT L.1.1 L.1.2), L.2.map fun x => (x.1, tl (pairT x.2.1 x.2.2))) := by
    unfold labL
    rw [segs_free (pairT_sgn h1), segs_marks h3, List.append_nil]
  unfold labOf
  rw [e, if_pos (by rw [List.length_map]; exact h2), pair_T h1, marks_T h3]
end K80

set_option Elab.async false
set_option linter.all false
set_option pp.maxSteps 900
set_option maxRecDepth 100000
set_option maxHeartbeats 4000000
namespace K80
open PySem PySem.Spec PyProof.Rows L2
open TL (tl)
/-! ### the law's own reader of labels -/
def consH (c : Nat) : List (List Nat) → List (List Nat)
  | [] => [[c]]
  | h :: t => (c :: h) :: t
def spS (s : Nat) : List Nat → List (List Nat)
  | [] => [[]]
  | c :: r => if c = s then [] :: spS s r else consH c (spS s r)
theorem spS_hit (s : Nat) (r : List Nat) : spS s (s :: r) = [] :: spS s r := if_pos rfl
theorem spS_miss {s c : Nat} (h : c ≠ s) (r : List Nat) : spS s (c :: r) = consH c (spS s r) := if_neg h
theorem spS_ne (s : Nat) : ∀ l : List Nat, ∃ h t, spS s l = h :: t
  | [] => ⟨_, _, rfl⟩
  | c :: r => by
    unfold spS
    obtain ⟨h, t, e⟩ := spS_ne s r
    by_cases hc : c = s
    · rw [if_pos hc]
      exact ⟨_, _, rfl⟩
    · rw [if_neg hc, e]
      exact ⟨_, _, rfl⟩
theorem pre_one (s c : Nat) (r : List Nat) : TL.pre [s] (c :: r) = decide (c = s) := by
  show ([c] == [s]) = _
  by_cases h : c = s
  · rw [h, decide_eq_true rfl]
    simp
  · rw [decide_eq_false h]
    simpa using h
theorem spl_spS (s : Nat) : ∀ (l acc : List Nat) (h : List Nat) (t : List (List Nat)), spS s l = h :: t → TL.spl [s] 0 acc l = (acc ++ h) :: t
  | [], acc, h, t, e => by
    injection e with e1 e2
    rw [TL.spl_nil, ← e1, ← e2, List.append_nil]
  | c :: r, acc, h, t, e => by
    obtain ⟨h', t', e'⟩ := spS_ne s r
    unfold spS at e
    by_cases hc : c = s
    · rw [if_pos hc] at e
      injection e with e1 e2
      rw [TL.spl_hit (by rw [pre_one, decide_eq_true hc]), ← e1, ← e2, List.append_nil, e']
      congr 1
      exact spl_spS s r [] h' t' e'
    · rw [if_neg hc, e'] at e
      injection e with e1 e2
      rw [TL.spl_miss (by rw [pre_one, decide_eq_false hc]), spl_spS s r _ h' t' e', ← e1, ← e2, List.append_assoc]
      rfl
theorem split_spS {x y : Str} {s : Nat} (hy : tl y = [s]) (hs : s < 256) : (Txt.split x y).map tl = spS s (tl x) := by
  have hk : y.cps.all (· < 256) = true := by
    rw [← Array.all_toList, List.all_eq_true]
    intro c hc
    have hc : c ∈ tl y := hc
    rw [hy] at hc
    rw [List.mem_singleton.mp hc]
    exact decide_eq_true hs
  rw [TL.split_spl x y (by rw [hy]; simp) (TL.kind_ok hk), hy]
  obtain ⟨h, t, e⟩ := spS_ne s (tl x)
  rw [e, spl_spS s _ [] h t e, List.nil_append]
theorem spS_free {s : Nat} : ∀ {l : List Nat}, s ∉ l → spS s l = [l]
  | [], _ => rfl
  | c :: r, h => by
    have hc : c ≠ s := fun e => h (by rw [e]; exact List.mem_cons_self)
    rw [spS_miss hc, spS_free (fun z => h (List.mem_cons_of_mem _ z))]
    rfl
theorem spS_app {s : Nat} : ∀ (a b : List Nat), spS s (a ++ s :: b) = spS s a ++ spS s b
  | [], b => spS_hit s b
  | c :: r, b => by
    rw [List.cons_append]
    by_cases hc : c = s
    · subst hc
      rw [spS_hit, spS_hit, spS_app r b]
      rfl
    · rw [spS_miss hc, spS_miss hc, spS_app r b]
      obtain ⟨h, t, e⟩ := spS_ne s r
      rw [e]
      rfl
def lawPair (p : List Nat) : Option (Nat × Nat) :=
  match spS 46 p with
  | [a, b] => if lw 5 a = true ∧ lw 999 b = true then some (dv a, dv b) else none
  | _ => none
theorem lawPair_eq (p : List Nat) : lawPair p = pairOf p := by
  unfold lawPair pairOf
  rcases pt_cases p with ⟨h, e⟩ | ⟨a, b, rfl, ha, e⟩
  · rw [spS_free h, e]
  · rw [spS_app, spS_free ha, e]
    show (match [a] ++ spS 46 b with
      | [a, b] => if lw 5 a = true ∧ lw 999 b = true then some (dv a, dv b) else none
      | _ => none) = match whl a, whl b with
      | some f, some k => if f ≤ 5 ∧ k ≤ 999 then some (f, k) else none
      | _, _ => none
    have i1 := lw_whl (most := 5) (by decide) (l := a)
    have i2 := lw_whl (most := 999) (by decide) (l := b)
    by_cases hb : 46 ∈ b
    · obtain ⟨b1, b2, rfl, hb1⟩ := cut_at hb
      obtain ⟨x, y, exy⟩ := spS_ne 46 b2
      have e2 : whl (b1 ++ 46 :: b2) = none := by
        cases e : whl (b1 ++ 46 :: b2) with
        | none => rfl
        | some v =>
          have := whl_dig e 46 (by simp)
          cases this
      rw [spS_app, spS_free hb1, exy, e2]
      cases whl a <;> rfl
    · rw [spS_free hb]
      show (if lw 5 a = true ∧ lw 999 b = true then some (dv a, dv b) else none) = _
      cases ea : whl a with
      | none =>
        rw [if_neg (fun z => by
          obtain ⟨v, hv, _⟩ := i1.mpr z.1
          rw [ea] at hv
          cases hv)]
      | some f =>
        cases eb : whl b with
        | none =>
          rw [if_neg (fun z => by
            obtain ⟨v, hv, _⟩ := i2.mpr z.2
            rw [eb] at hv
            cases hv)]
        | some k =>
          show _ = if f ≤ 5 ∧ k ≤ 999 then some (f, k) else none
          have ef := whl_dv ea
          have ek := whl_dv eb
          by_cases h : f ≤ 5 ∧ k ≤ 999
          · rw [if_pos h, if_pos ⟨i1.mp ⟨f, ea, h.1⟩, i2.mp ⟨k, eb, h.2⟩⟩, ef, ek]
          · rw [if_neg h, if_neg (fun z => h ?_)]
            obtain ⟨v, hv, h1⟩ := i1.mpr z.1
            obtain ⟨u, hu, h2⟩ := i2.mpr z.2
            rw [ea] at hv
            rw [eb] at hu
            obtain rfl := Option.some.inj hv
            obtain rfl := Option.some.inj hu
            exact ⟨h1, h2⟩
theorem pair_chars {p : List Nat} {q : Nat × Nat} (h : pairOf p = some q) : ∀ c ∈ p, dig c = true ∨ c = 46 := by
  unfold pairOf at h
  rcases pt_cases p with ⟨_, e⟩ | ⟨a, b, rfl, ha, e⟩
  · rw [e] at h
    cases h
  · rw [e] at h
    have h : (match whl a, whl b with
      | some f, some k => if f ≤ 5 ∧ k ≤ 999 then some (f, k) else none
      | _, _ => none) = some q := h
    cases ea : whl a with
    | none => rw [ea] at h; cases h
    | some f =>
      cases eb : whl b with
      | none => rw [ea, eb] at h; cases h
      | some k =>
        intro c hc
        rcases List.mem_append.mp hc with hc | hc
        · exact .inl (whl_dig ea c hc)
        · rcases List.mem_cons.mp hc with hc | hc
          · exact .inr hc
          · exact .inl (whl_dig eb c hc)
def rdM : List (List Nat) → Option (List (Nat × Nat × Nat))
  | [] => some []
  | [] :: _ => none
  | (s :: b) :: r => if sgn s = true then (match pairOf b, rdM r with
    | some (f, k), some m => some ((s, f, k) :: m)
    | _, _ => none) else none
def rdL : List (List Nat) → Option Lab
  | [] => none
  | p :: r => match pairOf p, rdM r with
    | some q, some m => if m.length < 9 then some (q, m) else none
    | _, _ => none
def rep (l : List Nat) : List Nat := l.flatMap fun c => if sgn c = true then [32, c] else [c]
theorem rep_cons (c : Nat) (r : List Nat) : rep (c :: r) = (if sgn c = true then [32, c] else [c]) ++ rep r := rfl
theorem rep_app (a b : List Nat) : rep (a ++ b) = rep a ++ rep b := List.flatMap_append
theorem rep_segs : ∀ {l : List Nat}, 32 ∉ l → spS 32 (rep l) = (segs l).1 :: (segs l).2.map fun x => x.1 :: x.2
  | [], _ => rfl
  | c :: r, h => by
    have hc : c ≠ 32 := fun e => h (e ▸ List.mem_cons_self)
    have ih := rep_segs (l := r) fun z => h (List.mem_cons_of_mem _ z)
    rw [rep_cons]
    by_cases hs : sgn c = true
    · rw [if_pos hs, segs_sgn hs]
      show spS 32 (32 :: c :: rep r) = _
      rw [spS_hit, spS_miss hc, ih]
      rfl
    · rw [if_neg hs]
      show spS 32 (c :: rep r) = _
      rw [spS_miss hc, ih]
      show _ = (segs (c :: r)).1 :: _
      have e : segs (c :: r) = (c :: (segs r).1, (segs r).2) := if_neg hs
      rw [e]
      rfl
theorem segs_signs : ∀ {l : List Nat}, ∀ x ∈ (segs l).2, sgn x.1 = true
  | [], x, h => by cases h
  | c :: r, x, h => by
    by_cases hs : sgn c = true
    · rw [segs_sgn hs] at h
      rcases List.mem_cons.mp h with rfl | h
      · exact hs
      · exact segs_signs (l := r) x h
    · have e : segs (c :: r) = (c :: (segs r).1, (segs r).2) := if_neg hs
      rw [e] at h
      exact segs_signs (l := r) x h
theorem rdM_marks : ∀ {t : List (Nat × List Nat)}, (∀ x ∈ t, sgn x.1 = true) → rdM (t.map fun x => x.1 :: x.2) = marksOf t
  | [], _ => rfl
  | (s, p) :: r, h => by
    have ih := rdM_marks (t := r) fun x hx => h x (List.mem_cons_of_mem _ hx)
    rw [List.map_cons]
    show (if sgn s = true then _ else none) = _
    rw [if_pos (h (s, p) List.mem_cons_self), ih]
    rfl
theorem marks_len : ∀ {t : List (Nat × List Nat)} {m : List (Nat × Nat × Nat)}, marksOf t = some m → m.length = t.length
  | [], m, h => by
    obtain rfl := Option.some.inj h
    rfl
  | (s, p) :: r, m, h => by
    have h : (match pairOf p, marksOf r with
      | some (f, k), some m => some ((s, f, k) :: m)
      | _, _ => none) = some m := h
    cases e1 : pairOf p with
    | none => rw [e1] at h; cases h
    | some q =>
      cases e2 : marksOf r with
      | none => rw [e1, e2] at h; cases h
      | some m' =>
        rw [e1, e2] at h
        obtain rfl := Option.some.inj h
        rw [List.length_cons, List.length_cons, marks_len e2]
theorem marks_chars : ∀ {t : List (Nat × List Nat)} {m : List (Nat × Nat × Nat)}, marksOf t = some m → ∀ x ∈ t, ∀ c ∈ x.2, dig c = true ∨ c = 46
  | [], m, h, x, hx => by cases hx
  | (s, p) :: r, m, h, x, hx => by
    have h : (match pairOf p, marksOf r with
      | some (f, k), some m => some ((s, f, k) :: m)
      | _, _ => none) = some m := h
    cases e1 : pairOf p with
    | none => rw [e1] at h; cases h
    | some q =>
      cases e2 : marksOf r with
      | none => rw [e1, e2] at h; cases h
      | some m' =>
        rcases List.mem_cons.mp hx with rfl | hx
        · exact pair_chars e1
        · exact marks_chars e2 x hx
theorem segs_mem : ∀ {l : List Nat} {c : Nat}, c ∈ l → c ∈ (segs l).1 ∨ ∃ x ∈ (segs l).2, c = x.1 ∨ c ∈ x.2
  | d :: r, c, h => by
    by_cases hs : sgn d = true
    · rw [segs_sgn hs]
      rcases List.mem_cons.mp h with rfl | h
      · exact .inr ⟨_, List.mem_cons_self, .inl rfl⟩
      · rcases segs_mem h with h | ⟨x, hx, h⟩
        · exact .inr ⟨_, List.mem_cons_self, .inr h⟩
        · exact .inr ⟨x, List.mem_cons_of_mem _ hx, h⟩
    · have e : segs (d :: r) = (d :: (segs r).1, (segs r).2) := if_neg hs
      rw [e]
      rcases List.mem_cons.mp h with rfl | h
      · exact .inl List.mem_cons_self
      · rcases segs_mem h with h | h
        · exact .inl (List.mem_cons_of_mem _ h)
        · exact .inr h
/-- what has a label has its signs alone -/
theorem lab_chars {l : List Nat} {L : Lab} (h : labOf l = some L) : ∀ c ∈ l, dig c = true ∨ c = 46 ∨ sgn c = true := by
  unfold labOf at h
  split at h
  · cases e1 : pairOf (segs l).1 with
    | none => rw [e1] at h; cases h
    | some q =>
      cases e2 : marksOf (segs l).2 with
      | none => rw [e1, e2] at h; cases h
      | some m =>
        intro c hc
        rcases segs_mem hc with hc | ⟨x, hx, rfl | hc⟩
        · exact (pair_chars e1 c hc).imp id .inl
        · exact .inr (.inr (segs_signs x hx))
        · exact (marks_chars e2 x hx c hc).imp id .inl
  · cases h
theorem rdM_app : ∀ {A B : List (List Nat)}, rdM B = none → rdM (A ++ B) = none
  | [], B, h => h
  | [] :: r, B, h => rfl
  | (s :: b) :: r, B, h => by
    have ih := rdM_app (A := r) h
    show (if sgn s = true then (match pairOf b, rdM (r ++ B) with
      | some (f, k), some m => some ((s, f, k) :: m)
      | _, _ => none) else none) = none
    rw [ih]
    split
    · cases pairOf b <;> rfl
    · rfl
theorem rdM_bad (v : List Nat) : rdM (spS 32 (rep v)) = none := by
  cases v with
  | nil => rfl
  | cons c r =>
    rw [rep_cons]
    by_cases hs : sgn c = true
    · rw [if_pos hs]
      show rdM (spS 32 (32 :: c :: rep r)) = none
      rw [spS_hit]
      rfl
    · rw [if_neg hs]
      show rdM (spS 32 (c :: rep r)) = none
      by_cases hc : c = 32
      · rw [hc, spS_hit]
        rfl
      · rw [spS_miss hc]
        obtain ⟨h, t, e⟩ := spS_ne 32 (rep r)
        rw [e]
        show (if sgn c = true then _ else none) = none
        rw [if_neg hs]
theorem read_lab (l : List Nat) : rdL (spS 32 (rep l)) = labOf l := by
  by_cases h : 32 ∈ l
  · obtain ⟨u, v, rfl, hu⟩ := cut_at h
    have e1 : labOf (u ++ 32 :: v) = none := by
      cases e : labOf (u ++ 32 :: v) with
      | none => rfl
      | some L =>
        rcases lab_chars e 32 h with z | z | z <;> cases z
    have e2 : rep (u ++ 32 :: v) = rep u ++ 32 :: rep v := by
      rw [rep_app]
      rfl
    rw [e1, e2, spS_app]
    obtain ⟨p, t, e⟩ := spS_ne 32 (rep u)
    rw [e]
    show (match pairOf p, rdM (t ++ spS 32 (rep v)) with
      | some q, some m => if m.length < 9 then some (q, m) else none
      | _, _ => none) = none
    rw [rdM_app (rdM_bad v)]
    cases pairOf p <;> rfl
  · rw [rep_segs h]
    show (match pairOf (segs l).1, rdM ((segs l).2.map fun x => x.1 :: x.2) with
      | some q, some m => if m.length < 9 then some (q, m) else none
      | _, _ => none) = _
    rw [rdM_marks segs_signs]
    have e0 : labOf l = if (segs l).2.length ≤ 8 then
        match pairOf (segs l).1, marksOf (segs l).2 with
        | some p, some m => some (p, m)
        | _, _ => none
      else none := rfl
    rw [e0]
    cases e1 : pairOf (segs l).1 with
    | none =>
      by_cases h8 : (segs l).2.length ≤ 8
      · rw [if_pos h8]
      · rw [if_neg h8]
    | some q =>
      cases e2 : marksOf (segs l).2 with
      | none =>
        by_cases h8 : (segs l).2.length ≤ 8
        · rw [if_pos h8]
        · rw [if_neg h8]
      | some m =>
        have := marks_len e2
        show (if m.length < 9 then some (q, m) else none) = if _ then some (q, m) else none
        by_cases h8 : (segs l).2.length ≤ 8
        · rw [if_pos (by omega), if_pos h8]
        · rw [if_neg (by omega), if_neg h8]
/-! ### the three replacements -/
theorem repl_one (y : Nat) (z : List Nat) : ∀ l : List Nat, StrLaws.replL [y] z l = l.flatMap fun c => if c = y then z else [c]
  | [] => StrLaws.replL_nil
  | c :: r => by
    have ih := repl_one y z r
    rw [List.flatMap_cons]
    by_cases hc : c = y
    · subst hc
      rw [if_pos rfl, StrLaws.replL_hit (by simp) rfl]
      show z ++ StrLaws.replL [c] z r = _
      rw [ih]
    · rw [if_neg hc, StrLaws.replL_miss (by
        show ¬ [c] = [y]
        intro e
        injection e with e
        exact hc e), ih]
      rfl
def rep1 (y : Nat) (l : List Nat) : List Nat := l.flatMap fun c => if c = y then [32, y] else [c]
theorem rep_three : ∀ l : List Nat, rep1 62 (rep1 60 (rep1 64 l)) = rep l
  | [] => rfl
  | c :: r => by
    have ih := rep_three r
    have a1 : ∀ (y : Nat) (a b : List Nat), rep1 y (a ++ b) = rep1 y a ++ rep1 y b := fun y a b => List.flatMap_append
    have e : rep1 64 (c :: r) = (if c = 64 then [32, 64] else [c]) ++ rep1 64 r := rfl
    rw [e, a1, a1, ih, rep_cons]
    congr 1
    by_cases h1 : c = 64
    · subst h1
      decide
    · rw [if_neg h1]
      by_cases h2 : c = 60
      · subst h2
        decide
      · by_cases h3 : c = 62
        · subst h3
          decide
        · have hs : ¬ sgn c = true := fun z => by
            rcases sgn_iff.mp z with z | z | z
            · exact h1 z
            · exact h2 z
            · exact h3 z
          rw [if_neg hs]
          have e1 : rep1 60 [c] = [c] := by
            show (if c = 60 then [32, 60] else [c]) ++ [] = [c]
            rw [if_neg h2]
            rfl
          have e2 : rep1 62 [c] = [c] := by
            show (if c = 62 then [32, 62] else [c]) ++ [] = [c]
            rw [if_neg h3]
            rfl
          rw [e1, e2]
theorem replace_tl {x y z : Str} {s : Nat} (hy : tl y = [s]) (hz : tl z = [32, s]) : tl (Txt.replace x y z) = rep1 s (tl x) := by
  have h1 : 1 ≤ y.length := by
    rw [TL.len_tl, hy]
    exact Nat.le_refl _
  have e := StrLaws.replace_list (x := x) (z := z) h1
  have e : tl (Txt.replace x y z) = StrLaws.replL (tl y) (tl z) (tl x) := e
  rw [e, hy, hz, repl_one]
  rfl
theorem rep1_len (y : Nat) : ∀ l : List Nat, (rep1 y l).length ≤ 2 * l.length
  | [] => Nat.le_refl _
  | c :: r => by
    have ih := rep1_len y r
    have e : rep1 y (c :: r) = (if c = y then [32, y] else [c]) ++ rep1 y r := rfl
    rw [e, List.length_append, List.length_cons]
    split
    · show 2 + _ ≤ _
      omega
    · show 1 + _ ≤ _
      omega
end K80

set_option Elab.async false
set_option linter.all false
set_option pp.maxSteps 900
set_option maxRecDepth 100000
set_option maxHeartbeats 4000000
namespace K80
open PySem PySem.Spec PyProof.Rows L2
open TL (tl)
theorem app_len (x y : Str) : (x ++ y).length = x.length + y.length := by
  rw [TL.len_tl, TL.tl_append, List.length_append, ← TL.len_tl, ← TL.len_tl]
/-! ### labels as data -/
def mw (s : Nat) : Str := if s = 64 then "at" else if s = 60 then "first" else "later"
def markD (m : Nat × Nat × Nat) : Dt := .tup [.str (mw m.1), .int (m.2.1 : Nat), .int (m.2.2 : Nat)]
def pairD (p : Nat × Nat) : Dt := .tup [.int (p.1 : Nat), .int (p.2 : Nat)]
def labD (L : Lab) : Dt := .tup [.int (L.1.1 : Nat), .int (L.1.2 : Nat), .tup (L.2.map markD)]
def oD {α : Type} (f : α → Dt) : Option α → Dt
  | none => .non
  | some a => f a
theorem mw_mem {s : Nat} (h : sgn s = true) : mw s ∈ marks3 := by
  rcases sgn_iff.mp h with rfl | rfl | rfl <;> decide +kernel
theorem mark_ok {m : Nat × Nat × Nat} (h : sgn m.1 = true ∧ okP m.2.1 m.2.2) : mkB (markD m) = true ∧ hdF (markD m) = true := by
  obtain ⟨h1, h2, h3⟩ := h
  refine ⟨?_, rfl⟩
  show (decide (mw m.1 ∈ marks3) && ((decide ((0 : Int) ≤ ((m.2.1 : Nat) : Int)) && decide (((m.2.1 : Nat) : Int) ≤ 5)) && (decide ((0 : Int) ≤ ((m.2.2 : Nat) : Int)) && decide (((m.2.2 : Nat) : Int) ≤ 999)))) = true
  rw [decide_eq_true (mw_mem h1), decide_eq_true (show (0 : Int) ≤ ((m.2.1 : Nat) : Int) by omega), decide_eq_true (show ((m.2.1 : Nat) : Int) ≤ 5 by omega), decide_eq_true (show (0 : Int) ≤ ((m.2.2 : Nat) : Int) by omega), decide_eq_true (show ((m.2.2 : Nat) : Int) ≤ 999 by omega)]
  rfl
theorem lab_ok {L : Lab} (h : okL L) : codeB (labD L) = true ∧ codeF (labD L) = true := by
  obtain ⟨⟨h1, h2⟩, h3, h4⟩ := h
  refine ⟨?_, ?_⟩
  · show (((decide ((0 : Int) ≤ ((L.1.1 : Nat) : Int)) && decide (((L.1.1 : Nat) : Int) ≤ 5)) && (decide ((0 : Int) ≤ ((L.1.2 : Nat) : Int)) && decide (((L.1.2 : Nat) : Int) ≤ 999))) && (decide ((L.2.map markD).length ≤ 8) && (L.2.map markD).all mkB)) = true
    rw [decide_eq_true (show (0 : Int) ≤ ((L.1.1 : Nat) : Int) by omega), decide_eq_true (show ((L.1.1 : Nat) : Int) ≤ 5 by omega), decide_eq_true (show (0 : Int) ≤ ((L.1.2 : Nat) : Int) by omega), decide_eq_true (show ((L.1.2 : Nat) : Int) ≤ 999 by omega),
      decide_eq_true (show (L.2.map markD).length ≤ 8 by rw [List.length_map]; exact h3)]
    show (L.2.map markD).all mkB = true
    rw [List.all_map, List.all_eq_true]
    exact fun m hm => (mark_ok (h4 m hm)).1
  · show (L.2.map markD).all hdF = true
    rw [List.all_map, List.all_eq_true]
    exact fun m hm => (mark_ok (h4 m hm)).2
theorem mw_pur (s : Nat) : PyData.strOk (mw s) = true := by
  unfold mw
  split
  · decide +kernel
  · split <;> decide +kernel
theorem purs_map {α : Type} {f : α → Dt} : ∀ {l : List α}, (∀ a ∈ l, pur (f a) = true) → purs (l.map f) = true
  | [], _ => rfl
  | a :: l, h => by
    show (pur (f a) && purs (l.map f)) = true
    rw [h a List.mem_cons_self, purs_map fun b hb => h b (List.mem_cons_of_mem _ hb)]
    rfl
theorem mark_pur (m : Nat × Nat × Nat) : pur (markD m) = true := by
  show (PyData.strOk (mw m.1) && (true && (true && true))) = true
  rw [mw_pur]
  rfl
theorem lab_pur (L : Lab) : pur (labD L) = true := by
  show (true && (true && (purs (L.2.map markD) && true))) = true
  rw [purs_map fun m _ => mark_pur m]
  rfl
theorem deps_map {α : Type} {f : α → Dt} {k : Nat} {l : List α} (h : ∀ a ∈ l, dep (f a) ≤ k) : deps (l.map f) ≤ k := deps_le fun d hd => by
  obtain ⟨a, ha, rfl⟩ := List.mem_map.mp hd
  exact h a ha
theorem mark_dep (m : Nat × Nat × Nat) : dep (markD m) ≤ 1 := Nat.le_refl _
theorem lab_dep (L : Lab) : dep (labD L) ≤ 3 := by
  have h := deps_map (k := 1) (l := L.2) fun m _ => mark_dep m
  show max 0 (max 0 (max (deps (L.2.map markD) + 1) 0)) + 1 ≤ 3
  omega
/-! ### pass words -/
inductive PW where
  | pl (s : Str)
  | lb (w : Str) (L : Lab)
def plain6 : List Str := ["fold", "copies", "dead", "twice", "thread", "last"]
def lab2 : List Str := ["lay", "peel"]
def colS : Str := ":"
def pc : List Nat → List Nat × Option (List Nat)
  | [] => ([], none)
  | c :: r => if c = 58 then ([], some r) else (c :: (pc r).1, (pc r).2)
def mkS (l : List Nat) : Str := ⟨l.toArray⟩
def wordOf (z : Str) : Option PW :=
  if z ∈ plain6 then some (.pl z) else
    match (pc (tl z)).2 with
    | none => none
    | some b => if mkS (pc (tl z)).1 ∈ lab2 then (labOf b).map (PW.lb (mkS (pc (tl z)).1)) else none
def wordT : PW → Str
  | .pl s => s
  | .lb w L => w ++ colS ++ labT L
def okW : PW → Prop
  | .pl s => s ∈ plain6
  | .lb w L => w ∈ lab2 ∧ okL L
def wordD : PW → Dt
  | .pl s => .tup [.str s]
  | .lb w L => .tup [.str w, labD L]
theorem pc_free : ∀ {l : List Nat}, 58 ∉ l → pc l = (l, none)
  | [], _ => rfl
  | c :: r, h => by
    have hc : c ≠ 58 := fun e => h (by rw [e]; exact List.mem_cons_self)
    have ih := pc_free (l := r) fun z => h (List.mem_cons_of_mem _ z)
    unfold pc
    rw [if_neg hc, ih]
theorem pc_at : ∀ {a b : List Nat}, 58 ∉ a → pc (a ++ 58 :: b) = (a, some b)
  | [], b, _ => rfl
  | c :: r, b, h => by
    have hc : c ≠ 58 := fun e => h (by rw [e]; exact List.mem_cons_self)
    have ih := pc_at (a := r) (b := b) fun z => h (List.mem_cons_of_mem _ z)
    rw [List.cons_append]
    unfold pc
    rw [if_neg hc, ih]
theorem pc_cases (l : List Nat) : (58 ∉ l ∧ pc l = (l, none)) ∨ ∃ a b, l = a ++ 58 :: b ∧ 58 ∉ a ∧ pc l = (a, some b) := by
  by_cases h : 58 ∈ l
  · obtain ⟨a, b, rfl, ha⟩ := cut_at h
    exact .inr ⟨a, b, rfl, ha, pc_at ha⟩
  · exact .inl ⟨h, pc_free h⟩
theorem plain_free : ∀ s ∈ plain6, (tl s).all (fun c => decide (c ≠ 58) && (decide (c ≠ 32) && decide (c < 128))) = true ∧ s.length ≤ 6 ∧ 1 ≤ s.length := by decide +kernel
theorem lab2_free : ∀ s ∈ lab2, (tl s).all (fun c => decide (c ≠ 58) && (decide (c ≠ 32) && decide (c < 128))) = true ∧ s.length ≤ 4 ∧ s ∉ plain6 ∧ 1 ≤ s.length := by decide +kernel
theorem lab2_no58 {w : Str} (h : w ∈ lab2) : 58 ∉ tl w := fun z => by
  have := List.all_eq_true.mp (lab2_free w h).1 58 z
  simp at this
theorem tl_colS : tl colS = [58] := by decide +kernel
theorem tl_mkS (l : List Nat) : tl (mkS l) = l := rfl
theorem mkS_tl (x : Str) : mkS (tl x) = x := TL.mk_tl x
theorem tl_wordL (w : Str) (L : Lab) : tl (wordT (.lb w L)) = tl w ++ 58 :: labL L := by
  show tl (w ++ colS ++ labT L) = _
  rw [TL.tl_append, TL.tl_append, tl_colS, List.append_assoc]
  rfl
theorem word_T {p : PW} (h : okW p) : wordOf (wordT p) = some p := by
  cases p with
  | pl s => exact if_pos h
  | lb w L =>
    obtain ⟨h1, h2⟩ := h
    have n : ¬ wordT (.lb w L) ∈ plain6 := fun z => by
      have := List.all_eq_true.mp (plain_free _ z).1 58 (by rw [tl_wordL]; simp)
      simp at this
    unfold wordOf
    rw [if_neg n, tl_wordL, pc_at (lab2_no58 h1)]
    show (if mkS (tl w) ∈ lab2 then (labOf (labL L)).map (PW.lb (mkS (tl w))) else none) = _
    rw [mkS_tl, if_pos h1, lab_T h2]
    rfl
/-- the law's own reader of a pass word -/
def lawWord (z : Str) : Option PW :=
  if z ∈ plain6 then some (.pl z)
  else if (tl z).take 4 = tl ("lay:" : Str) ∧ 32 ∉ tl z then (labOf ((tl z).drop 4)).map (PW.lb "lay")
  else if (tl z).take 5 = tl ("peel:" : Str) ∧ 32 ∉ tl z then (labOf ((tl z).drop 5)).map (PW.lb "peel")
  else none
theorem lawWord_eq {z : Str} (h : 32 ∉ tl z) : lawWord z = wordOf z := by
  unfold lawWord wordOf
  by_cases h1 : z ∈ plain6
  · rw [if_pos h1, if_pos h1]
  · rw [if_neg h1, if_neg h1]
    have e1 : tl ("lay:" : Str) = [108, 97, 121, 58] := by decide +kernel
    have e2 : tl ("peel:" : Str) = [112, 101, 101, 108, 58] := by decide +kernel
    have m1 : mkS [108, 97, 121] = ("lay" : Str) := by decide +kernel
    have m2 : mkS [112, 101, 101, 108] = ("peel" : Str) := by decide +kernel
    rw [e1, e2]
    by_cases a1 : (tl z).take 4 = [108, 97, 121, 58]
    · rw [if_pos ⟨a1, h⟩]
      obtain ⟨b, hb⟩ : ∃ b, tl z = [108, 97, 121] ++ 58 :: b := ⟨(tl z).drop 4, by rw [← List.take_append_drop 4 (tl z), a1]; simp⟩
      rw [hb, pc_at (by decide)]
      show _ = if mkS [108, 97, 121] ∈ lab2 then (labOf b).map (PW.lb (mkS [108, 97, 121])) else none
      rw [m1, if_pos (by decide +kernel)]
      rfl
    · rw [if_neg (fun z => a1 z.1)]
      by_cases a2 : (tl z).take 5 = [112, 101, 101, 108, 58]
      · rw [if_pos ⟨a2, h⟩]
        obtain ⟨b, hb⟩ : ∃ b, tl z = [112, 101, 101, 108] ++ 58 :: b := ⟨(tl z).drop 5, by rw [← List.take_append_drop 5 (tl z), a2]; simp⟩
        rw [hb, pc_at (by decide)]
        show _ = if mkS [112, 101, 101, 108] ∈ lab2 then (labOf b).map (PW.lb (mkS [112, 101, 101, 108])) else none
        rw [m2, if_pos (by decide +kernel)]
        rfl
      · rw [if_neg (fun z => a2 z.1)]
        rcases pc_cases (tl z) with ⟨_, e⟩ | ⟨a, b, hz, ha, e⟩
        · rw [e]
        · rw [e]
          show none = if mkS a ∈ lab2 then (labOf b).map (PW.lb (mkS a)) else none
          rw [if_neg fun hm => ?_]
          simp only [lab2, List.mem_cons, List.not_mem_nil, or_false] at hm
          rcases hm with hm | hm
          · have : a = [108, 97, 121] := by
              have q := congrArg tl (hm.trans m1.symm)
              exact q
            subst this
            exact a1 (by rw [hz]; rfl)
          · have : a = [112, 101, 101, 108] := by
              have q := congrArg tl (hm.trans m2.symm)
              exact q
            subst this
            exact a2 (by rw [hz]; rfl)
/-! ### texts of labels and words: their signs, their lengths -/
theorem pairT_asc {f k : Nat} (h : okP f k) : ∀ c ∈ tl (pairT f k), dig c = true ∨ c = 46 := fun c hc => by
  by_cases e : dig c = true
  · exact .inl e
  · by_cases e2 : c = 46
    · exact .inr e2
    · exact absurd hc (pairT_free h (by simpa using e) e2)
theorem labL_asc {L : Lab} (h : okL L) : ∀ c ∈ labL L, dig c = true ∨ c = 46 ∨ sgn c = true := lab_chars (lab_T h)
theorem labL_no {L : Lab} (h : okL L) {c : Nat} (h1 : dig c = false) (h2 : c ≠ 46) (h3 : sgn c = false) : c ∉ labL L := fun z => by
  rcases labL_asc h c z with e | e | e
  · rw [h1] at e; cases e
  · exact h2 e
  · rw [h3] at e; cases e
theorem marksT_len : ∀ {m : List (Nat × Nat × Nat)}, (∀ x ∈ m, sgn x.1 = true ∧ okP x.2.1 x.2.2) → (marksT m).length ≤ 8 * m.length
  | [], _ => Nat.le_refl _
  | (s, f, k) :: r, h => by
    have ih := marksT_len (m := r) fun x hx => h x (List.mem_cons_of_mem _ hx)
    have : (tl (pairT f k)).length ≤ 7 := (pairT_len (h (s, f, k) List.mem_cons_self).2).1
    show (s :: (tl (pairT f k) ++ marksT r)).length ≤ _
    rw [List.length_cons, List.length_append, List.length_cons]
    omega
theorem labT_len {L : Lab} (h : okL L) : (labT L).length ≤ 71 ∧ 1 ≤ (labT L).length := by
  have h1 := pairT_len h.1
  have h2 := marksT_len h.2.2
  have h3 := h.2.1
  have e : (labT L).length = (labL L).length := by
    rw [TL.len_tl]
    rfl
  rw [e]
  unfold labL
  rw [List.length_append]
  omega
theorem wordT_len {p : PW} (h : okW p) : (wordT p).length ≤ 76 := by
  cases p with
  | pl s =>
    have := (plain_free s h).2.1
    show s.length ≤ 76
    omega
  | lb w L =>
    have h1 := (lab2_free w h.1).2.1
    have h2 := (labT_len h.2).1
    have h3 : colS.length = 1 := by decide +kernel
    show (w ++ colS ++ labT L).length ≤ 76
    rw [app_len, app_len]
    omega
theorem wordT_free {p : PW} (h : okW p) : 32 ∉ tl (wordT p) := by
  cases p with
  | pl s =>
    intro z
    have := List.all_eq_true.mp (plain_free s h).1 32 z
    simp at this
  | lb w L =>
    rw [tl_wordL]
    intro z
    rcases List.mem_append.mp z with z | z
    · have := List.all_eq_true.mp (lab2_free w h.1).1 32 z
      simp at this
    · rcases List.mem_cons.mp z with z | z
      · cases z
      · exact labL_no h.2 (by decide) (by decide) (by decide) z
theorem plain_pur : ∀ s ∈ plain6 ++ lab2, PyData.strOk s = true := by decide +kernel
theorem word_pur {p : PW} (h : okW p) : pur (wordD p) = true := by
  cases p with
  | pl s =>
    show (PyData.strOk s && true) = true
    rw [plain_pur s (List.mem_append_left _ h)]
    rfl
  | lb w L =>
    show (PyData.strOk w && (pur (labD L) && true)) = true
    rw [plain_pur w (List.mem_append_right _ h.1), lab_pur]
    rfl
theorem word_dep (p : PW) : dep (wordD p) ≤ 4 := by
  cases p with
  | pl s => show max 0 0 + 1 ≤ 4; decide
  | lb w L =>
    have := lab_dep L
    show max 0 (max (dep (labD L)) 0) + 1 ≤ 4
    omega
theorem word_some {z : Str} {p : PW} (h : wordOf z = some p) : (∃ s, p = .pl s ∧ s ∈ plain6) ∨ ∃ w L, p = .lb w L ∧ w ∈ lab2 := by
  unfold wordOf at h
  split at h
  · rename_i hz
    exact .inl ⟨z, (Option.some.inj h).symm, hz⟩
  · split at h
    · cases h
    · split at h
      · rename_i hm
        obtain ⟨L, _, e⟩ := Option.map_eq_some_iff.mp h
        exact .inr ⟨_, L, e.symm, hm⟩
      · cases h
theorem word_purO {z : Str} {p : PW} (h : wordOf z = some p) : pur (wordD p) = true := by
  rcases word_some h with ⟨s, rfl, hs⟩ | ⟨w, L, rfl, hw⟩
  · show (PyData.strOk s && true) = true
    rw [plain_pur s (List.mem_append_left _ hs)]
    rfl
  · show (PyData.strOk w && (pur (labD L) && true)) = true
    rw [plain_pur w (List.mem_append_right _ hw), lab_pur]
    rfl
end K80

set_option Elab.async false
set_option linter.all false
set_option pp.maxSteps 900
set_option maxRecDepth 100000
set_option maxHeartbeats 4000000
namespace K80
open PySem PySem.Spec PyProof.Rows L2
open TL (tl)
abbrev sTL : Stmt := top 33
abbrev sLTL : Stmt := top 49
theorem empty_app (x : Str) : Str.empty ++ x = x := Str.ext' (by rw [Str.cps_append]; exact Array.empty_append)
theorem log_small {i : Int} (h : i.natAbs ≤ 100000) : i.natAbs.log2 < 1920 := by
  have : i.natAbs.log2 < 17 := by
    by_cases z : i.natAbs = 0
    · rw [z]; decide
    · rw [Nat.log2_lt z]; omega
  omega
theorem sum_lens {xs : List Str} {B : Nat} (h : ∀ x ∈ xs, x.length ≤ B) : (xs.map (·.length)).sum ≤ xs.length * B := by
  induction xs with
  | nil => simp
  | cons x xs ih =>
    have h1 := h x List.mem_cons_self
    have h2 := ih fun y hy => h y (List.mem_cons_of_mem _ hy)
    rw [List.map_cons, List.sum_cons, List.length_cons, Nat.succ_mul]
    omega
theorem joinL_len (S : List Nat) : ∀ l : List (List Nat), (TL.joinL S l).length ≤ (l.map (·.length)).sum + l.length * S.length
  | [] => Nat.zero_le _
  | [x] => by
    show x.length ≤ (x.length + 0) + 1 * S.length
    omega
  | x :: y :: r => by
    have h := joinL_len S (y :: r)
    show (x ++ (S ++ TL.joinL S (y :: r))).length ≤ (x.length + ((y :: r).map (·.length)).sum) + ((y :: r).length + 1) * S.length
    rw [List.length_append, List.length_append, Nat.succ_mul]
    omega
theorem join_len (y : Str) (l : List Str) : (Txt.join y l).length ≤ (l.map (·.length)).sum + l.length * y.length := by
  have h := joinL_len (tl y) (l.map tl)
  rw [TL.len_tl, TL.join_eq, TL.tl_join]
  rw [List.length_map, List.map_map, ← TL.len_tl] at h
  have e : (l.map ((fun x => x.length) ∘ tl)) = l.map (·.length) := List.map_congr_left fun x _ => (TL.len_tl x).symm
  rw [e] at h
  exact h
theorem joinL_nil : ∀ l : List (List Nat), TL.joinL [] l = l.flatten
  | [] => rfl
  | [x] => by
    show x = x ++ []
    rw [List.append_nil]
  | x :: y :: r => by
    show x ++ ([] ++ TL.joinL [] (y :: r)) = _
    rw [joinL_nil (y :: r)]
    rfl
theorem join_nil (l : List Str) : tl (Txt.join ("" : Str) l) = (l.map tl).flatten := by
  have e : tl ("" : Str) = [] := by decide +kernel
  rw [TL.join_eq, TL.tl_join, e, joinL_nil]
/-! ### the text of a label, written -/
def markT (m : Nat × Nat × Nat) : Str := sgS m.1 ++ pairT m.2.1 m.2.2
def sg3 : Str := "@<>"
theorem mk_ix {s : Nat} (h : sgn s = true) : ∃ j : Nat, marks3[j]? = some (mw s) ∧ (∀ m, m < j → marks3[m]? ≠ some (mw s)) ∧ sg3.cps.toList[j]? = some s := by
  rcases sgn_iff.mp h with rfl | rfl | rfl
  · exact ⟨0, by decide +kernel, fun m hm => absurd hm (Nat.not_lt_zero _), by decide +kernel⟩
  · refine ⟨1, by decide +kernel, fun m hm => ?_, by decide +kernel⟩
    obtain rfl : m = 0 := by omega
    decide +kernel
  · refine ⟨2, by decide +kernel, fun m hm => ?_, by decide +kernel⟩
    have : m = 0 ∨ m = 1 := by omega
    rcases this with rfl | rfl <;> decide +kernel
theorem markT_tl (m : Nat × Nat × Nat) : tl (markT m) = m.1 :: tl (pairT m.2.1 m.2.2) := by
  unfold markT
  rw [TL.tl_append]
  rfl
theorem marks_flat : ∀ m : List (Nat × Nat × Nat), (m.map fun x => tl (markT x)).flatten = marksT m
  | [] => rfl
  | (s, f, k) :: r => by
    rw [List.map_cons, List.flatten_cons, marks_flat r, markT_tl]
    rfl
theorem nT_len {n : Nat} (h : n ≤ 999) : (nT n).length ≤ 3 := by
  rw [TL.len_tl]
  exact (canon_parts (nT_ok' h).1).2.1
theorem markT_len {m : Nat × Nat × Nat} (h : okP m.2.1 m.2.2) : (markT m).length ≤ 8 := by
  rw [TL.len_tl, markT_tl, List.length_cons]
  have := (pairT_len h).1
  omega
theorem ptS_len : ptS.length = 1 := by decide +kernel
theorem sgS_len (s : Nat) : (sgS s).length = 1 := rfl
def pcs (L : Lab) : List Str := pairT L.1.1 L.1.2 :: L.2.map markT
theorem pcs_join (L : Lab) : Txt.join ("" : Str) (pcs L) = labT L := by
  refine str_ext ?_
  rw [join_nil]
  show ((pairT L.1.1 L.1.2 :: L.2.map markT).map tl).flatten = labL L
  rw [List.map_cons, List.flatten_cons, List.map_map]
  unfold labL
  rw [← marks_flat]
  rfl
/-! ### the dicts of the signs -/
def kv3 : List (Key × V) := [(.inr "at", .str "@"), (.inr "first", .str "<"), (.inr "later", .str ">")]
def vk3 : List (Key × V) := [(.inr "@", .str "at"), (.inr "<", .str "first"), (.inr ">", .str "later")]
theorem ne_key {a b : Str} (h : a ≠ b) : ¬ (Sum.inr a : Key) = Sum.inr b := fun e => by
  injection e with e
  exact h e
theorem merge_three {a b c : Str} (x y z : V) (h1 : a ≠ b) (h2 : a ≠ c) (h3 : b ≠ c) : mergeK [] [((.inr a : Key), x), (.inr b, y), (.inr c, z)] = [((.inr a : Key), x), (.inr b, y), (.inr c, z)] := by
  have e1 : putK [] (Sum.inr a : Key) x = [((.inr a : Key), x)] := by
    rw [putK_new _ valV_nil]
    rfl
  have e2 : putK [((Sum.inr a : Key), x)] (.inr b) y = [((.inr a : Key), x), (.inr b, y)] := by
    rw [putK_new _ ((valV_neg (ne_key h1)).trans valV_nil)]
    rfl
  have e3 : putK [((Sum.inr a : Key), x), (.inr b, y)] (.inr c) z = [((.inr a : Key), x), (.inr b, y), (.inr c, z)] := by
    rw [putK_new _ ((valV_neg (ne_key h2)).trans ((valV_neg (ne_key h3)).trans valV_nil))]
    rfl
  show putK (putK (putK [] (Sum.inr a : Key) x) (.inr b) y) (.inr c) z = _
  rw [e1, e2, e3]
theorem kv3_merge : mergeK [] kv3 = kv3 := merge_three _ _ _ (by decide +kernel) (by decide +kernel) (by decide +kernel)
theorem vk3_merge : mergeK [] vk3 = vk3 := merge_three _ _ _ (by decide +kernel) (by decide +kernel) (by decide +kernel)
theorem kv3_at {s : Nat} (h : sgn s = true) : valV kv3 (.inr (mw s)) = some (.str (sgS s)) := by
  have e1 : mw 64 = ("at" : Str) := by decide +kernel
  have e2 : mw 60 = ("first" : Str) := by decide +kernel
  have e3 : mw 62 = ("later" : Str) := by decide +kernel
  have f1 : sgS 64 = ("@" : Str) := by decide +kernel
  have f2 : sgS 60 = ("<" : Str) := by decide +kernel
  have f3 : sgS 62 = (">" : Str) := by decide +kernel
  rcases sgn_iff.mp h with rfl | rfl | rfl
  · rw [e1, f1]
    exact valV_pos rfl
  · rw [e2, f2]
    exact (valV_neg (ne_key (by decide +kernel))).trans (valV_pos rfl)
  · rw [e3, f3]
    exact (valV_neg (ne_key (by decide +kernel))).trans ((valV_neg (ne_key (by decide +kernel))).trans (valV_pos rfl))
theorem vk3_at {s : Nat} (h : sgn s = true) : valV vk3 (.inr (sgS s)) = some (.str (mw s)) := by
  have e1 : mw 64 = ("at" : Str) := by decide +kernel
  have e2 : mw 60 = ("first" : Str) := by decide +kernel
  have e3 : mw 62 = ("later" : Str) := by decide +kernel
  have f1 : sgS 64 = ("@" : Str) := by decide +kernel
  have f2 : sgS 60 = ("<" : Str) := by decide +kernel
  have f3 : sgS 62 = (">" : Str) := by decide +kernel
  rcases sgn_iff.mp h with rfl | rfl | rfl
  · rw [e1, f1]
    exact valV_pos rfl
  · rw [e2, f2]
    exact (valV_neg (ne_key (by decide +kernel))).trans (valV_pos rfl)
  · rw [e3, f3]
    exact (valV_neg (ne_key (by decide +kernel))).trans ((valV_neg (ne_key (by decide +kernel))).trans (valV_pos rfl))
theorem vk3_no {x : Str} (h : ∀ s, sgn s = true → x ≠ sgS s) : valV vk3 (.inr x) = none := by
  have f1 : sgS 64 = ("@" : Str) := by decide +kernel
  have f2 : sgS 60 = ("<" : Str) := by decide +kernel
  have f3 : sgS 62 = (">" : Str) := by decide +kernel
  have h1 := h 64 (by decide)
  have h2 := h 60 (by decide)
  have h3 := h 62 (by decide)
  rw [f1] at h1
  rw [f2] at h2
  rw [f3] at h3
  exact (valV_neg (ne_key h1.symm)).trans ((valV_neg (ne_key h2.symm)).trans ((valV_neg (ne_key h3.symm)).trans valV_nil))
def spTL : Sp := fun vs H Q _ => ∃ (g : Addr) (v : V) (L : Lab), vs = [v] ∧ DV g H v (labD L) ∧ okL L ∧ ∀ H', Same H H' → Q (.str (labT L)) H'
/-- a tuple of texts of the module -/
def GT (K : PySem.W.Frag) (mg : Str → Option Value) (x : Str) (l : List Str) : Prop :=
  ∃ a o, mg x = some (.ref a) ∧ (∀ H, SqT K H a (l.map V.str)) ∧ K.lookup a = some o ∧ o.cls = .type "tuple" ∧ o.dict = none
section
variable {g : Addr} {H : Hp} {v : V} {L : Lab}
theorem lab_at (h : DV g H v (labD L)) : ∃ b a xs, v = .ref b ∧ H b = some (.tup [.int (L.1.1 : Nat), .int (L.1.2 : Nat), .ref a]) ∧ H a = some (.tup xs) ∧ xs.length = L.2.length ∧ DVs g H xs (L.2.map markD) := by
  obtain ⟨b, vx, vy, vz, rfl, eb, hx, hy, hz⟩ := h.tup3
  obtain rfl := hx.int_inv
  obtain rfl := hy.int_inv
  obtain ⟨a, xs, rfl, ea, _, r⟩ := hz.tup_inv
  exact ⟨b, a, xs, rfl, eb, ea, by rw [r.len, List.length_map], r⟩
theorem mark_at {m : Nat × Nat × Nat} (h : DV g H v (markD m)) : ∃ b, v = .ref b ∧ H b = some (.tup [.str (mw m.1), .int (m.2.1 : Nat), .int (m.2.2 : Nat)]) := by
  obtain ⟨b, vx, vy, vz, rfl, eb, hx, hy, hz⟩ := h.tup3
  obtain ⟨rfl, _⟩ := hx.str_inv
  obtain rfl := hy.int_inv
  obtain rfl := hz.int_inv
  exact ⟨b, rfl, eb⟩
end
section
variable {P : Program} {w : World} {K : PySem.W.Frag} {mg : Str → Option Value} {base : Heap}
theorem scTlb : FnScope ["label", "f", "k", "way", "pieces", "word", "g", "j"] ["label"] (defScope sTL) := ⟨rfl, rfl, rfl, by decide +kernel, rfl, by decide +kernel, by decide +kernel⟩
theorem ok_tlb {f : Addr} {fd : FuncData} (F : Fun K "text_of_label" "text_of_label" sTL f fd) (gM : GT K mg "MARKS" marks3) (gS : ∃ t, mg "MARK_SIGNS" = some (.str sg3 t)) : FnOk P w K mg base CX0 1 f fd ["label"] spTL := by
  obtain ⟨aM, oM, eM, qM, lM, cM, dM⟩ := gM
  obtain ⟨tS, eS⟩ := gS
  refine F.ok scTlb (fun vs H Q E h => ?_) (fun cdv A outer s H vs Q E hr h => ?_)
  · obtain ⟨g, v, L, rfl, _⟩ := h
    rfl
  · obtain ⟨g, v, L, rfl, hd, hL, k⟩ := h
    refine ⟨_, (pss_cons (ps_asg (pv 0) (pg_tup (by rfl) (pgs_cons (pg_name (i := 1) scTlb.nd rfl (Or.inl rfl)) (pgs_cons (pg_name (i := 2) scTlb.nd rfl (Or.inl rfl)) (pgs_cons (pg_name (i := 3) scTlb.nd rfl (Or.inl rfl)) pgs_nil)))))
      (pss_cons (ps_set (i := 4) scTlb.nd rfl (Or.inl rfl) (pe_lst (pa_cons (pe_joined (.cons (pe_fmt (pv 1)) (.cons pe_str (.cons (pe_fmt (pv 2)) .nil)))) pa_nil)))
      (pss_cons (ps_for PassesOwn.never rfl (pi_tup (pv 3)) (pg_tup (by rfl) (pgs_cons (pg_name (i := 5) scTlb.nd rfl (Or.inl rfl)) (pgs_cons (pg_name (i := 6) scTlb.nd rfl (Or.inl rfl)) (pgs_cons (pg_name (i := 7) scTlb.nd rfl (Or.inl rfl)) pgs_nil))))
          (pss_one (ps_expr (qApp (pv 4) (pe_joined (.cons (pe_fmt (pe_ix ix_str (pe_glob (v := .str sg3) (by rfl) eS ⟨_, rfl⟩) (pe_bm PySem.F.plainAttrs_tuple PySem.F.slot_tuple_index PySem.F.type_tuple_index mt_tup_index (pe_glob (v := .ref aM) (by rfl) eM rfl) (pa_cons (pv 5) pa_nil)) (fun _ _ => rfl))) (.cons (pe_fmt (pv 6)) (.cons pe_str (.cons (pe_fmt (pv 7)) .nil)))))))))
      (pss_one (ps_ret (pe_join pe_str (pv 4))))))), ?_⟩
    obtain ⟨b, a, xs, rfl, eb, ea, hxl, r⟩ := lab_at hd
    obtain ⟨⟨h1, h2⟩, h3, h4⟩ := hL
    have l1 := nT_len (show L.1.1 ≤ 999 by omega)
    have l2 := nT_len h2
    have l3 := ptS_len
    refine ⟨_, rfl, b, _, rfl, SqT.of eb, (by rfl), _, _, rfl, _, _, rfl, _, _, rfl, rfl, ?_⟩
    refine ⟨_, rfl, .inr ⟨_, rfl, log_small (by omega), ?_⟩⟩
    refine ⟨_, rfl, (by rw [empty_app, sizeLine_eq]; show (nT L.1.1).length ≤ _; omega), _, rfl, (by rw [empty_app, app_len, sizeLine_eq]; show (nT L.1.1).length + ptS.length ≤ _; omega), _, rfl, .inr ⟨_, rfl, log_small (by omega), _, rfl,
      (by rw [empty_app, app_len, app_len, sizeLine_eq]; show (nT L.1.1).length + ptS.length + (nT L.1.2).length ≤ _; omega), (by show 1 ≤ sizeLine; decide), fun p hp => ?_⟩⟩
    rw [show Str.empty ++ Str.ofString (toString ((L.1.1 : Nat) : Int)) ++ Str.ofString "." ++ Str.ofString (toString ((L.1.2 : Nat) : Int)) = pairT L.1.1 L.1.2 by rw [empty_app]; rfl]
    generalize hH1 : upd H p _ = H1
    obtain ⟨sp, ep⟩ := freshF hp hH1
    refine ⟨_, rfl, a, rfl, ⟨_, SqT.of (sp _ _ ea)⟩, for_tup (K := K) (a := a) (xs := xs) (fun i σ H' => ∃ wv gv jv : Option V, σ = [some (.ref b), some (.int (L.1.1 : Nat)), some (.int (L.1.2 : Nat)), some (.ref a), some (.ref p), wv, gv, jv] ∧ H' p = some (.lst (((pcs L).take (i + 1)).map V.str)) ∧ Same H H')
      ⟨none, none, none, rfl, ep, sp⟩ (fun i σ H' _ ⟨_, _, _, _, _, s2⟩ => SqT.of (s2 _ _ ea)) ?_ ?_⟩
    · rintro i x σ H2 hi ⟨wv, gv, jv, rfl, e2, s2⟩
      obtain ⟨d, hd', hx⟩ := r.at_ hi
      rw [List.getElem?_map] at hd'
      obtain ⟨m, hm, rfl⟩ := Option.map_eq_some_iff.mp hd'
      obtain ⟨m1, m2⟩ := h4 m (List.mem_of_getElem? hm)
      obtain ⟨b2, rfl, eb2⟩ := mark_at (hx.keep (Kv.of s2))
      obtain ⟨j, j1, j2, j3⟩ := mk_ix m1
      have q1 := nT_len (show m.2.1 ≤ 999 by have := m2.1; omega)
      have q2 := nT_len m2.2
      have hil : i < L.2.length := (List.getElem?_eq_some_iff.mp hm).1
      have hL8 := h3
      refine ⟨b2, _, rfl, SqT.of eb2, (by rfl), _, _, rfl, _, _, rfl, _, _, rfl, rfl, ?_⟩
      refine ⟨_, rfl, .inl ⟨rfl, _, SqL.of e2⟩, ?_⟩
      refine ⟨.inr (.inl ⟨rfl, oM, lM, cM, dM⟩), _, rfl, aM, marks3, _, j, rfl, rfl, qM _, j1, j2, sg3, _, m.1, rfl, rfl, (by show sg3.length ≤ sizeLine; decide +kernel), atI_nat j3, ?_⟩
      refine .inl ⟨_, rfl, (by show (sgS m.1).length ≤ sizeLine; rw [sgS_len]; decide), _, rfl, (by rw [empty_app]; show (sgS m.1).length ≤ sizeLine; rw [sgS_len]; decide), _, rfl, .inr ⟨_, rfl, log_small (by have := m2.1; omega), _, rfl, ?_, _, rfl, ?_, _, rfl, .inr ⟨_, rfl, log_small (by have := m2.2; omega), _, rfl, ?_, ?_⟩⟩⟩
      · rw [empty_app, app_len, sizeLine_eq]
        show (sgS m.1).length + (nT m.2.1).length ≤ _
        rw [sgS_len]
        omega
      · rw [empty_app, app_len, app_len, sizeLine_eq]
        show (sgS m.1).length + (nT m.2.1).length + ptS.length ≤ _
        rw [sgS_len]
        omega
      · rw [empty_app, app_len, app_len, app_len, sizeLine_eq]
        show (sgS m.1).length + (nT m.2.1).length + ptS.length + (nT m.2.2).length ≤ _
        rw [sgS_len]
        omega
      · have et : Str.empty ++ (⟨#[m.1]⟩ : Str) ++ Str.ofString (toString ((m.2.1 : Nat) : Int)) ++ Str.ofString "." ++ Str.ofString (toString ((m.2.2 : Nat) : Int)) = markT m := by
          rw [empty_app]
          refine str_ext ?_
          unfold markT pairT nT ptS sgS
          simp only [TL.tl_append, List.append_assoc]
        rw [et]
        refine ⟨_, _, _, rfl, rfl, e2, ?_, ?_⟩
        · rw [List.length_map, List.length_take, sizeLine_eq]
          omega
        · have et2 : (pcs L).take (i + 1 + 1) = (pcs L).take (i + 1) ++ [markT m] := by
            have hp2 : (pcs L)[i + 1]? = some (markT m) := by
              show (L.2.map markT)[i]? = _
              rw [List.getElem?_map, hm]
              rfl
            rw [List.take_succ (i := i + 1), hp2]
            rfl
          refine ⟨_, _, _, rfl, ?_, ?_⟩
          · rw [upd_same, et2, List.map_append]
            rfl
          · intro b' o e'
            rw [upd_ne (ne_of_none e' hp)]
            exact s2 _ _ e'
    · rintro σ H2 ⟨wv, gv, jv, rfl, e2, s2⟩
      have hpl : (pcs L).length = L.2.length + 1 := by
        show (L.2.map markT).length + 1 = _
        rw [List.length_map]
      rw [hxl, ← hpl, List.take_length] at e2
      have hsum : ((pcs L).map (·.length)).sum ≤ (pcs L).length * 8 := sum_lens fun x hx => by
        rcases List.mem_cons.mp hx with rfl | hx
        · have := (pairT_len (f := L.1.1) (k := L.1.2) ⟨h1, h2⟩).1
          rw [TL.len_tl]
          omega
        · obtain ⟨m, hm, rfl⟩ := List.mem_map.mp hx
          exact markT_len (h4 m hm).2
      have h0 : ("" : Str).length = 0 := by decide +kernel
      have hL8 := h3
      refine ⟨⟨_, rfl⟩, _, rfl, _, p, pcs L, rfl, rfl, .inl (SqL.of e2), ?_, ?_⟩
      · show ((pcs L).map (·.length)).sum + (pcs L).length * ("" : Str).length ≤ _
        rw [h0]
        omega
      · show Q (.str (Txt.join ("" : Str) (pcs L))) H2
        rw [pcs_join]
        exact k H2 s2
theorem scLtl : FnScope ["label", "found", "word", "f", "k"] ["label"] (defScope sLTL) := ⟨rfl, rfl, rfl, by decide +kernel, rfl, by decide +kernel, by decide +kernel⟩
theorem ok_ltl {f : Addr} {fd : FuncData} (F : Fun K "_law_told_label" "_law_told_label" sLTL f fd) (T : Bn mg) : FnOk P w K mg base CX0 1 f fd ["label"] spTL := by
  refine F.ok scLtl (fun vs H Q E h => ?_) (fun cdv A outer s H vs Q E hr h => ?_)
  · obtain ⟨g, v, L, rfl, _⟩ := h
    rfl
  · obtain ⟨g, v, L, rfl, hd, hL, k⟩ := h
    have hu := hu_of hr
    refine ⟨_, (pss_cons (ps_set (i := 1) scLtl.nd rfl (Or.inl rfl) (pe_op op_add_str (pe_op op_add_str (pe_callTy call_str_int (by rfl) T.str (by decide +kernel) (pa_cons (pe_ix ix_tup (pv 0) pe_int (fun _ _ => rfl)) pa_nil)) pe_str) (pe_callTy call_str_int (by rfl) T.str (by decide +kernel) (pa_cons (pe_ix ix_tup (pv 0) pe_int (fun _ _ => rfl)) pa_nil))))
      (pss_cons (ps_for PassesOwn.never rfl (pi_tup (pe_ix ix_tup (pv 0) pe_int (fun _ _ => rfl))) (pg_tup (by rfl) (pgs_cons (pg_name (i := 2) scLtl.nd rfl (Or.inl rfl)) (pgs_cons (pg_name (i := 3) scLtl.nd rfl (Or.inl rfl)) (pgs_cons (pg_name (i := 4) scLtl.nd rfl (Or.inl rfl)) pgs_nil))))
          (pss_one (ps_set (i := 1) scLtl.nd rfl (Or.inl rfl) (pe_op op_add_str (pe_op op_add_str (pe_op op_add_str (pe_op op_add_str (pv 1) (pe_dget hu (pe_disp (pps_cons pe_str pe_str (pps_cons pe_str pe_str (pps_cons pe_str pe_str pps_nil))) (by rfl) (by rfl) (fun z => by cases z) (by decide)) (pv 2) (fun _ _ => rfl))) (pe_callTy call_str_int (by rfl) T.str (by decide +kernel) (pa_cons (pv 3) pa_nil))) pe_str) (pe_callTy call_str_int (by rfl) T.str (by decide +kernel) (pa_cons (pv 4) pa_nil))))))
      (pss_one (ps_ret (pv 1))))), ?_⟩
    obtain ⟨b, a, xs, rfl, eb, ea, hxl, r⟩ := lab_at hd
    obtain ⟨⟨h1, h2⟩, h3, h4⟩ := hL
    have l1 := nT_len (show L.1.1 ≤ 999 by omega)
    have l2 := nT_len h2
    have l3 := ptS_len
    refine ⟨_, rfl, b, _, 0, _, rfl, rfl, SqT.of eb, rfl, _, rfl, log_small (by omega), _, _, rfl, rfl, (by rw [sizeLine_eq]; show (nT L.1.1).length + ptS.length ≤ _; omega), ?_⟩
    refine ⟨_, rfl, b, _, 1, _, rfl, rfl, SqT.of eb, rfl, _, rfl, log_small (by omega), _, _, rfl, rfl, (by rw [app_len, sizeLine_eq]; show (nT L.1.1).length + ptS.length + (nT L.1.2).length ≤ _; omega), ?_⟩
    rw [show Str.ofString (toString ((L.1.1 : Nat) : Int)) ++ Str.ofString "." ++ Str.ofString (toString ((L.1.2 : Nat) : Int)) = pairT L.1.1 L.1.2 from rfl]
    refine ⟨_, rfl, b, _, 2, _, rfl, rfl, SqT.of eb, rfl, a, rfl, ⟨_, SqT.of ea⟩, for_tup (K := K) (a := a) (xs := xs) (fun i σ H' => ∃ (wv fv kv : Option V) (z : Str), σ = [some (.ref b), some (.str z), wv, fv, kv] ∧ tl z = tl (pairT L.1.1 L.1.2) ++ marksT (L.2.take i) ∧ Same H H')
      ⟨none, none, none, _, rfl, (by rw [List.take_zero]; exact (List.append_nil _).symm), Same.refl H⟩ (fun i σ H' _ ⟨_, _, _, _, _, _, s2⟩ => SqT.of (s2 _ _ ea)) ?_ ?_⟩
    · rintro i x σ H2 hi ⟨wv, fv, kv, z, rfl, ez, s2⟩
      obtain ⟨d, hd', hx⟩ := r.at_ hi
      rw [List.getElem?_map] at hd'
      obtain ⟨m, hm, rfl⟩ := Option.map_eq_some_iff.mp hd'
      obtain ⟨m1, m2⟩ := h4 m (List.mem_of_getElem? hm)
      obtain ⟨b2, rfl, eb2⟩ := mark_at (hx.keep (Kv.of s2))
      have q1 := nT_len (show m.2.1 ≤ 999 by have := m2.1; omega)
      have q2 := nT_len m2.2
      have hzl : z.length ≤ 80 := by
        rw [TL.len_tl, ez, List.length_append]
        have := (pairT_len (f := L.1.1) (k := L.1.2) ⟨h1, h2⟩).1
        have := marksT_len (m := L.2.take i) fun x hx => h4 x (List.mem_of_mem_take hx)
        rw [List.length_take] at this
        omega
      refine ⟨b2, _, rfl, SqT.of eb2, (by rfl), _, _, rfl, _, _, rfl, _, _, rfl, rfl, ?_⟩
      refine ⟨_, rfl, fun p hp => ?_⟩
      generalize hH3 : upd H2 p _ = H3
      obtain ⟨sp, ep⟩ := freshF hp hH3
      refine ⟨ep, kv3, rfl, (by decide), ?_⟩
      generalize hH4 : upd H3 p _ = H4
      have e4 : H4 p = some (.dK kv3) := by
        rw [← hH4, upd_same, kv3_merge]
      have s4 : Same H2 H4 := fun c o e => by
        rw [← hH4, upd_ne (ne_of_none e hp)]
        exact sp _ _ e
      refine ⟨_, rfl, p, _, rfl, (by have q := DGet.k (k := Sum.inr (mw m.1)) e4; rw [kv3_at m1] at q; exact q), ?_⟩
      refine ⟨_, _, rfl, rfl, (by rw [sizeLine_eq]; show z.length + (sgS m.1).length ≤ _; rw [sgS_len]; omega), _, rfl, _, rfl, log_small (by have := m2.1; omega), _, _, rfl, rfl, (by rw [app_len, sizeLine_eq]; show z.length + (sgS m.1).length + (nT m.2.1).length ≤ _; rw [sgS_len]; omega),
        _, _, rfl, rfl, (by rw [app_len, app_len, sizeLine_eq]; show z.length + (sgS m.1).length + (nT m.2.1).length + ptS.length ≤ _; rw [sgS_len]; omega), _, rfl, _, rfl, log_small (by have := m2.2; omega), _, _, rfl, rfl, (by rw [app_len, app_len, app_len, sizeLine_eq]; show z.length + (sgS m.1).length + (nT m.2.1).length + ptS.length + (nT m.2.2).length ≤ _; rw [sgS_len]; omega), ?_⟩
      refine ⟨_, _, _, _, rfl, ?_, s2.trans s4⟩
      have et : L.2.take (i + 1) = L.2.take i ++ [m] := by
        rw [List.take_succ, hm]
        rfl
      have em : ∀ A B : List (Nat × Nat × Nat), marksT (A ++ B) = marksT A ++ marksT B := by
        intro A B
        induction A with
        | nil => rfl
        | cons c A ih =>
          obtain ⟨s, f, k⟩ := c
          show s :: (tl (pairT f k) ++ marksT (A ++ B)) = (s :: (tl (pairT f k) ++ marksT A)) ++ marksT B
          rw [ih, List.cons_append, List.append_assoc]
      rw [et, em, ← List.append_assoc, ← ez]
      have e1 : marksT [m] = tl (markT m) := by
        rw [markT_tl]
        obtain ⟨s, f, k⟩ := m
        show s :: (tl (pairT f k) ++ []) = _
        rw [List.append_nil]
      rw [e1, ← TL.tl_append]
      congr 1
      refine str_ext ?_
      unfold markT pairT nT ptS
      simp only [TL.tl_append, List.append_assoc]
    · rintro σ H2 ⟨wv, fv, kv, z, rfl, ez, s2⟩
      rw [hxl, List.take_length] at ez
      have e0 : z = labT L := str_ext ez
      subst e0
      exact ⟨_, rfl, k H2 s2⟩
end
end K80

set_option Elab.async false
set_option linter.all false
set_option pp.maxSteps 900
set_option maxRecDepth 100000
set_option maxHeartbeats 4000000
namespace K80
open PySem PySem.Spec PyProof.Rows L2
open TL (tl)
abbrev sWh : Stmt := top 29
abbrev sPr : Stmt := top 36
section
variable {X : Cx}
theorem get_neg : PGet X (fun o i H Q => ∃ (p : Addr) (xs : List V) (k : Int) (z : V), o = .ref p ∧ i = .int k ∧ k < 0 ∧ SqL X.K H p xs ∧ atI xs k = some z ∧ Q z H) := by
  intro pins s σ H o i ov iv Q I ro ri h
  obtain ⟨p, xs, k, z, rfl, rfl, h0, hq, he, q⟩ := h
  cases ro
  obtain ⟨t, rfl⟩ := ri
  obtain ⟨its, r, pl, hz⟩ := I.list hq
  obtain ⟨j, h1, h2, h3, h4, h5⟩ := atI_get he
  obtain ⟨w, ew, rw'⟩ := r.get h2
  have hl := r.length
  have hn := line63
  have hj : (k + (its.toArray.size : Int)).toNat = j := by
    rw [seqIndex_neg (by omega) h4] at h1
    rw [List.size_toArray, ← hl]
    exact Option.some.inj h1
  exact wpAny_getItem_list_neg pl.isList (by omega) (by rw [List.size_toArray] <;> omega) (by omega) (by rw [hj]; simpa using ew) ⟨z, H, I, rw', q⟩
theorem ip_addS : PIp X .Add (fun x y H Q => ∃ i j, x = .str i ∧ y = .str j ∧ i.length + j.length ≤ sizeLine ∧ Q (.str (i ++ j)) H) :=
  fun pins s σ H x y v u Q I rx ry h => iop_add_str pins s σ H x y v u Q I rx ry h
end
/-- [f(c) for c in a text], f a question -/
theorem lc_strB {z : Str} {f : Nat → Bool} {te : TE} {i : Nat} {vs : List Nat} {σ : L2.St} {H1 : Hp} {Q : Addr → Hp → Prop} (hl : z.length ≤ 100000)
    (hw : ∀ x, wipe (List.set (wipe σ vs) i (some x)) vs = wipe σ vs)
    (step : ∀ (c : Nat) (H2 : Hp) (R : VK), c ∈ tl z → Same H1 H2 → R (.bl (f c)) H2 → te (List.set (wipe σ vs) i (some (.str ⟨#[c]⟩))) H2 R)
    (fin : ∀ (D : Addr) (H2 : Hp), Same H1 H2 → H2 D = some (.lst (((tl z).map f).map V.bl)) → Q D H2) :
    ∀ (D : Addr), H1 D = none → ∃ W : Nat → Nat → Hp → Prop, (∃ m, W 0 m (upd H1 D (HO.lst []))) ∧ ∀ (i' m : Nat) (H : Hp), W i' m H →
      (Its z).stop i' H ∧ Q D H ∨ (Its z).go i' H ∧ ∃ Nx : Hp → Prop, (∀ H', Nx H' → ∃ m', m' < m ∧ W (i' + 1) m' H') ∧ ∀ (x : V) (H' : Hp), (Its z).yld i' H x H' →
        gName i x (wipe σ vs) H' fun σ2 H2 => wipe σ2 vs = wipe σ vs ∧ tYes σ2 H2 fun b H3 => if b = true then te σ2 H3 fun y H4 => ∃ acc, H4 D = some (HO.lst acc) ∧ acc.length < sizeLine ∧ Nx (upd H4 D (HO.lst (acc ++ [y]))) else Nx H3 := by
  intro D hD
  have hlen := TL.len_tl z
  refine lc_it (walk_str (z := z)) (fun i H' => H' D = some (.lst ((((tl z).take i).map f).map V.bl)) ∧ Same H1 H') ⟨upd_same, same_new hD⟩ (fun _ _ _ _ => trivial) ?_ ?_
  · rintro j x H2 H2' hj ⟨h4, s1⟩ ⟨rfl, c, hx, rfl⟩
    have hc : (tl z)[j]? = some c := by rw [← hx, Array.getElem?_toList]
    refine ⟨hw _, ?_⟩
    refine step c _ _ (List.mem_of_getElem? hc) s1 ⟨_, h4, ?_, ?_, ?_⟩
    · rw [List.length_map, List.length_map, List.length_take, sizeLine_eq]
      omega
    · rw [upd_same, List.take_succ, hc, List.map_append, List.map_append]
      rfl
    · intro b o eb
      rw [upd_ne (ne_of_none eb hD)]
      exact s1 _ _ eb
  · rintro H2 ⟨h4, s1⟩
    rw [show z.cps.size = (tl z).length from hlen, List.take_length] at h4
    exact fin D H2 s1 h4
theorem all_id {l : List Nat} {f : Nat → Bool} : (l.map f).all id = l.all f := by
  induction l with
  | nil => rfl
  | cons d l ih => rw [List.map_cons, List.all_cons, List.all_cons, ih] <;> rfl
def oV : Option Nat → V
  | none => .non
  | some n => .int (n : Nat)
def spWh : Sp := fun vs H Q _ => ∃ z : Str, vs = [.str z] ∧ z.length ≤ 10000 ∧ ∀ H', Same H H' → Q (oV (whl (tl z))) H'
def spPr : Sp := fun vs H Q _ => ∃ z : Str, vs = [.str z] ∧ z.length ≤ 10000 ∧ ∀ (v : V) (H' : Hp), Same H H' → (∀ g, DV g H' v (oD pairD (pairOf (tl z)))) → Q v H'
theorem canon_false {l : List Nat} (h : ¬ (1 ≤ l.length ∧ l.length ≤ 30)) : whl l = none := by
  unfold whl
  rw [if_neg fun z => h ⟨(canon_parts z).1, (canon_parts z).2.1⟩]
theorem canon_all {l : List Nat} (h : l.all dig = false) : whl l = none := by
  unfold whl
  rw [if_neg fun z => ?_]
  have : l.all dig = true := List.all_eq_true.mpr (canon_parts z).2.2.1
  rw [h] at this
  cases this
theorem canon_zero {l : List Nat} (h : l.getD 0 0 = 48) (h2 : l ≠ [48]) : whl l = none := by
  unfold whl
  rw [if_neg fun z => h2 ((canon_parts z).2.2.2 h)]
theorem canon_good {l : List Nat} (h : 1 ≤ l.length ∧ l.length ≤ 30) (h2 : l.all dig = true) (h3 : l.getD 0 0 = 48 → l = [48]) : whl l = some (dv l) := by
  unfold whl
  rw [if_pos (canon_of h.1 h.2 (fun c hc => List.all_eq_true.mp h2 c hc) h3)]
theorem first_at {z : Str} (h : 1 ≤ z.length) : atI z.cps.toList 0 = some ((tl z).getD 0 0) := by
  refine atI_nat (xs := tl z) (j := 0) ?_
  rw [List.getD_eq_getElem?_getD, List.getElem?_eq_getElem (by rw [← TL.len_tl]; omega)]
  rfl
theorem dec_str {x y : Str} : decide (V.str x = V.str y) = decide (x = y) := by simp
theorem zero_tl : tl ("0" : Str) = [48] := by decide +kernel
section
variable {P : Program} {w : World} {K : PySem.W.Frag} {mg : Str → Option Value} {base : Heap}
theorem scWh : FnScope ["text", "sign"] ["text"] (defScope sWh) := ⟨rfl, rfl, rfl, by decide +kernel, rfl, by decide +kernel, by decide +kernel⟩
theorem ok_wh {f : Addr} {fd : FuncData} (F : Fun K "whole_of" "whole_of" sWh f fd) (T : Bn mg) (g3 : ∃ t, mg "MOST_DIGITS" = some (.int 30 t)) (gD : ∃ t, mg "DIGITS" = some (.str D10 t)) : FnOk P w K mg base CX0 1 f fd ["text"] spWh := by
  obtain ⟨t3, e3⟩ := g3
  obtain ⟨tD, eD⟩ := gD
  refine F.ok scWh (fun vs H Q E h => ?_) (fun cdv A outer s H vs Q E hr h => ?_)
  · obtain ⟨z, rfl, _⟩ := h
    rfl
  · obtain ⟨z, rfl, hz, k⟩ := h
    refine ⟨_, (pss_cons (ps_if (PW.pt (pw_or (pt_not (pt_chain op_le op_le pe_int (pe_callB call_len_str (by rfl) T.len PySem.boot_len (pa_cons (pv 0) pa_nil)) (pe_glob (v := .int 30) (by rfl) e3 ⟨_, rfl⟩))) (pw_or1 (pt_not (pt_val (pe_callB (cr_all rfl) (by rfl) T.all (by decide +kernel) (pa_cons (pe_lc (own := [("sign", 1)]) (g := gName 1) (tt := tYes) (by rfl) scWh.nd (pi_str (pv 0)) (blkOk_by (own := [("sign", 1)]) (N := ["text", "sign"]) (sc := defScope sWh) (by decide +kernel)) (fun _ _ _ _ _ => (pg_name (i := 1) scWh.nd rfl (Or.inl rfl))) (fun _ _ _ _ _ => pts_nil) (fun _ _ _ _ _ => (pe_cmpR op_in_sign (pv 1) (pe_glob (v := .str D10) (by rfl) eD ⟨_, rfl⟩) (by rfl)))) pa_nil))))))) (pss_one (ps_ret pe_non)) pss_nil)
      (pss_one (ps_ret (pe_ifExp (PW.pt (pw_and (pt_cmpR op_eq (pe_ix ix_str (pv 0) pe_int (fun _ _ => rfl)) pe_str (nomark _)) (pw_and1 (pt_cmpR op_ne (pv 0) pe_str (nomark _))))) pe_non (pe_callTy call_int_str (by rfl) T.int (by decide +kernel) (pa_cons (pv 0) pa_nil)))))), ?_⟩
    have hzt := TL.len_tl z
    refine ⟨_, rfl, z, rfl, (by rw [sizeLine_eq]; omega), _, _, rfl, rfl, _, rfl, ?_⟩
    by_cases h1 : 1 ≤ z.length
    rotate_left
    · rw [canon_false (fun q => h1 (by omega))] at k
      refine ifF (decide_eq_false (by omega)) ?_
      exact ⟨_, rfl, ifT rfl (k H (Same.refl H))⟩
    refine ifT (decide_eq_true (by omega)) ?_
    refine ⟨_, _, rfl, rfl, _, rfl, ?_⟩
    by_cases h2 : z.length ≤ 30
    rotate_left
    · rw [canon_false (fun q => h2 (by omega))] at k
      refine ifT (by rw [decide_eq_false (by omega)]; rfl) ?_
      exact k H (Same.refl H)
    refine ifF (by rw [decide_eq_true (by omega)]; rfl) ?_
    refine ⟨_, rfl, z, rfl, ?_⟩
    refine lc_strB (f := dig) (i := 1) (vs := [1]) (by omega) (fun x => rfl) ?_ ?_
    · intro c H2 R hc s2 hR
      refine ⟨_, rfl, c, D10, rfl, rfl, ?_⟩
      rw [mem_D10]
      exact hR
    · intro D H2 s2 hD
      refine ⟨D, (tl z).map dig, rfl, SqL.of hD, _, rfl, ?_⟩
      rw [all_id]
      cases ha : (tl z).all dig with
      | false =>
        rw [canon_all ha] at k
        exact ifT rfl (k H2 s2)
      | true =>
        refine ifF rfl ?_
        refine ⟨_, rfl, z, 0, _, rfl, rfl, (by rw [sizeLine_eq]; omega), first_at h1, rfl, _, rfl, ?_⟩
        have e48 : decide (V.str (⟨#[(tl z).getD 0 0]⟩ : Str) = V.str (Str.ofString "0")) = decide ((tl z).getD 0 0 = 48) := by
          rw [dec_str, decide_eq_decide]
          constructor
          · intro e
            have q : [(tl z).getD 0 0] = tl ("0" : Str) := congrArg tl e
            rw [zero_tl] at q
            injection q
          · intro e
            rw [e]
            decide +kernel
        have e0 : decide (V.str z = V.str (Str.ofString "0")) = decide (tl z = [48]) := by
          rw [dec_str, decide_eq_decide]
          constructor
          · intro e
            rw [e]
            exact zero_tl
          · intro e
            exact str_ext (e.trans zero_tl.symm)
        have iT : intText? z = some ((dv (tl z) : Nat) : Int) := intText_digits (fun c hc => dig_iff.mp (List.all_eq_true.mp ha c hc)) (fun e => by
          have e : tl z = [] := e
          rw [e, List.length_nil] at hzt
          omega) (by omega)
        have good : ((tl z).getD 0 0 = 48 → tl z = [48]) → tCB (fun xs H Q => ∃ a n, xs = [V.str a] ∧ intText? a = some n ∧ a.length ≤ 640 ∧ Q (V.int n) H) (tCons (tVar 0) tNil) (L2.start [Str.ofString "text", Str.ofString "sign"] [V.str z]) H2 Q := fun hg => by
          rw [canon_good (by omega) ha hg] at k
          exact ⟨_, rfl, z, _, rfl, iT, by omega, k H2 s2⟩
        by_cases c0 : (tl z).getD 0 0 = 48
        · refine ifT (by rw [e48]; exact decide_eq_true c0) ?_
          refine ⟨_, rfl, rfl, _, rfl, ?_⟩
          by_cases c1 : tl z = [48]
          · refine ifF (by simp only [bne_iff_ne, ne_eq, decide_not, e0, c1, decide_true, Bool.not_true]) ?_
            exact good fun _ => c1
          · rw [canon_zero c0 c1] at k
            refine ifT (by simp only [decide_not, e0, decide_eq_false c1, Bool.not_false]) ?_
            exact k H2 s2
        · refine ifF (by rw [e48]; exact decide_eq_false c0) ?_
          refine ifF rfl ?_
          exact good fun z => absurd z c0
theorem scPr : FnScope ["text", "first", "point", "behind", "f", "k"] ["text"] (defScope sPr) := ⟨rfl, rfl, rfl, by decide +kernel, rfl, by decide +kernel, by decide +kernel⟩
theorem ok_pr {f : Addr} {fd : FuncData} (F : Fun K "_pair_told" "_pair_told" sPr f fd) (T : Bn mg) (cWh : Cl P w K mg base "whole_of" ["text"] 1 spWh) (g5 : ∃ t, mg "MOST_FUNCTION" = some (.int 5 t)) (g9 : ∃ t, mg "MOST_NUMBER" = some (.int 999 t)) : FnOk P w K mg base CX0 2 f fd ["text"] spPr := by
  obtain ⟨fWh, fdWh, GWh, mWh, kWh, bWh⟩ := cWh
  obtain ⟨t5, e5⟩ := g5
  obtain ⟨t9, e9⟩ := g9
  refine F.ok scPr (fun vs H Q E h => ?_) (fun cdv A outer s H vs Q E hr h => ?_)
  · obtain ⟨z, rfl, _⟩ := h
    rfl
  · obtain ⟨z, rfl, hz, k⟩ := h
    have hr1 : Room 1 _ := hr.mono (by decide)
    refine ⟨_, (pss_cons (ps_asg (pe_partition (pv 0) pe_str) (pg_tup (by rfl) (pgs_cons (pg_name (i := 1) scPr.nd rfl (Or.inl rfl)) (pgs_cons (pg_name (i := 2) scPr.nd rfl (Or.inl rfl)) (pgs_cons (pg_name (i := 3) scPr.nd rfl (Or.inl rfl)) pgs_nil)))))
      (pss_cons (ps_par (i := 4) (j := 5) (by rfl) scPr.nd rfl rfl (by decide) rfl rfl (pa_cons (pe_call GWh hr1 (by rfl) mWh kWh bWh .nil pass0 (pa_cons (pv 1) pa_nil)) (pa_cons (pe_call GWh hr1 (by rfl) mWh kWh bWh .nil pass0 (pa_cons (pv 3) pa_nil)) pa_nil)) (by rfl))
      (pss_cons (ps_if (PW.pt (pw_or (pt_cmpR op_eq (pv 2) pe_str (nomark _)) (pw_or (pt_cmpR op_isN (pv 4) pe_non (nomark _)) (pw_or (pt_cmpR op_isN (pv 5) pe_non (nomark _)) (pw_or (pt_cmpR op_gt (pv 4) (pe_glob (v := .int 5) (by rfl) e5 ⟨_, rfl⟩) (nomark _)) (pw_or1 (pt_cmpR op_gt (pv 5) (pe_glob (v := .int 999) (by rfl) e9 ⟨_, rfl⟩) (nomark _)))))))) (pss_one (ps_ret pe_non)) pss_nil)
      (pss_one (ps_ret (pe_tup (pa_cons (pv 4) (pa_cons (pv 5) pa_nil)))))))), ?_⟩
    have l0 : (ptS.length == 0) = false := by decide +kernel
    have tp : tl ptS = [46] := by decide +kernel
    have hzt := TL.len_tl z
    have w0 : whl (tl Str.empty) = none := by decide +kernel
    rcases pt_cases (tl z) with ⟨h46, ept⟩ | ⟨a, b, ez, ha, ept⟩
    · have ep : Txt.partition z ptS = (z, Str.empty, Str.empty) := TL.partition_none tp h46
      refine ⟨_, rfl, ⟨_, rfl⟩, _, _, rfl, rfl, l0, (by rw [sizeLine_eq]; omega), fun p hp => ?_⟩
      rw [show Txt.partition z (Str.ofString ".") = (z, Str.empty, Str.empty) from ep]
      generalize hH1 : upd H p _ = H1
      obtain ⟨sp, ep⟩ := freshF hp hH1
      refine ⟨p, _, rfl, SqT.of ep, (by rfl), _, _, rfl, _, _, rfl, _, _, rfl, rfl, ?_⟩
      refine ⟨_, rfl, z, rfl, hz, fun H2 s2 => ?_⟩
      refine ⟨_, rfl, Str.empty, rfl, (by decide), fun H3 s3 => ?_⟩
      refine ⟨_, _, rfl, ?_⟩
      refine ⟨_, rfl, rfl, _, rfl, ?_⟩
      refine ifT (show decide (V.str Str.empty = V.str (Str.ofString "")) = true by decide +kernel) ?_
      have eq : pairOf (tl z) = none := by
        unfold pairOf
        rw [ept]
      rw [eq] at k
      exact k _ H3 ((sp.trans s2).trans s3) fun g => .non
    · have ez' : z = mkS a ++ ptS ++ mkS b := str_ext (by rw [TL.tl_append, TL.tl_append, tp, tl_mkS, tl_mkS, ez, List.append_assoc]; rfl)
      have ep : Txt.partition z ptS = (mkS a, ptS, mkS b) := by
        rw [ez']
        exact TL.partition_app tp ha
      have la : (mkS a).length ≤ 10000 ∧ (mkS b).length ≤ 10000 := by
        rw [TL.len_tl, TL.len_tl, tl_mkS, tl_mkS]
        rw [ez, List.length_append, List.length_cons] at hzt
        omega
      refine ⟨_, rfl, ⟨_, rfl⟩, _, _, rfl, rfl, l0, (by rw [sizeLine_eq]; omega), fun p hp => ?_⟩
      rw [show Txt.partition z (Str.ofString ".") = (mkS a, ptS, mkS b) from ep]
      generalize hH1 : upd H p _ = H1
      obtain ⟨sp, ep⟩ := freshF hp hH1
      refine ⟨p, _, rfl, SqT.of ep, (by rfl), _, _, rfl, _, _, rfl, _, _, rfl, rfl, ?_⟩
      refine ⟨_, rfl, mkS a, rfl, la.1, fun H2 s2 => ?_⟩
      refine ⟨_, rfl, mkS b, rfl, la.2, fun H3 s3 => ?_⟩
      have s13 := (sp.trans s2).trans s3
      rw [tl_mkS, tl_mkS]
      have eq : pairOf (tl z) = (match whl a, whl b with
          | some f, some k => if f ≤ 5 ∧ k ≤ 999 then some (f, k) else none
          | _, _ => none) := by
        unfold pairOf
        rw [ept] <;> rfl
      refine ⟨_, _, rfl, ?_⟩
      refine ⟨_, rfl, rfl, _, rfl, ?_⟩
      refine ifF (show decide (V.str ptS = V.str (Str.ofString "")) = false by decide +kernel) ?_
      refine ⟨_, rfl, ?_⟩
      cases e1 : whl a with
      | none =>
        rw [e1] at eq
        have eq : pairOf (tl z) = none := eq
        rw [eq] at k
        refine ⟨rfl, _, rfl, ifT rfl ?_⟩
        exact k _ H3 s13 fun g => .non
      | some f =>
        refine ⟨rfl, _, rfl, ifF rfl ?_⟩
        refine ⟨_, rfl, ?_⟩
        cases e2 : whl b with
        | none =>
          rw [e1, e2] at eq
          have eq : pairOf (tl z) = none := eq
          rw [eq] at k
          refine ⟨rfl, _, rfl, ifT rfl ?_⟩
          exact k _ H3 s13 fun g => .non
        | some j =>
          rw [e1, e2] at eq
          have eq : pairOf (tl z) = if f ≤ 5 ∧ j ≤ 999 then some (f, j) else none := eq
          refine ⟨rfl, _, rfl, ifF rfl ?_⟩
          refine ⟨_, rfl, _, _, rfl, rfl, _, rfl, ?_⟩
          by_cases f5 : f ≤ 5
          rotate_left
          · rw [if_neg (fun z => f5 z.1)] at eq
            rw [eq] at k
            refine ifT (decide_eq_true (by show (5 : Int) < (f : Nat); omega)) ?_
            exact k _ H3 s13 fun g => .non
          refine ifF (decide_eq_false (by show ¬ (5 : Int) < (f : Nat); omega)) ?_
          refine ⟨_, rfl, _, _, rfl, rfl, _, rfl, ?_⟩
          by_cases j9 : j ≤ 999
          rotate_left
          · rw [if_neg (fun z => j9 z.2)] at eq
            rw [eq] at k
            refine ifT (decide_eq_true (by show (999 : Int) < (j : Nat); omega)) ?_
            exact k _ H3 s13 fun g => .non
          refine ifF (decide_eq_false (by show ¬ (999 : Int) < (j : Nat); omega)) ?_
          rw [if_pos ⟨f5, j9⟩] at eq
          rw [eq] at k
          refine ⟨_, rfl, _, rfl, (by show 2 ≤ sizeLine; decide), fun c hc => ?_⟩
          generalize hH4 : upd H3 c _ = H4
          obtain ⟨sc, ec⟩ := freshF hc hH4
          exact k _ H4 (s13.trans sc) fun g => .tup ec (by show 2 ≤ 1000; decide) (.cons (.int _) (.cons (.int _) .nil))
end
end K80

set_option Elab.async false
set_option linter.all false
set_option pp.maxSteps 900
set_option maxRecDepth 100000
set_option maxHeartbeats 4000000
namespace K80
open PySem PySem.Spec PyProof.Rows L2
open TL (tl)
abbrev sTold : Stmt := top 35
theorem u65 {A : Around} {k : Nat} (r : Room k A) : A.units + 65 < cLine := by have := r.un; omega
/-- [F(x) for x in a list of texts], data -/
theorem lc_strsD {K : PySem.W.Frag} {a : Addr} {xs : List Str} {F : Str → Dt} {te : TE} {i : Nat} {vs : List Nat} {σ : L2.St} {H1 : Hp} {Q : Addr → Hp → Prop} (hp : ∀ x ∈ xs, pur (F x) = true) (hl : xs.length ≤ 100000) (e : H1 a = some (.lst (xs.map V.str)))
    (hw : ∀ x, wipe (List.set (wipe σ vs) i (some x)) vs = wipe σ vs)
    (step : ∀ (x : Str) (H2 : Hp) (R : VK), x ∈ xs → Same H1 H2 → (∀ (v : V) (H3 : Hp), Same H2 H3 → (∀ g, DV g H3 v (F x)) → R v H3) → te (List.set (wipe σ vs) i (some (.str x))) H2 R)
    (fin : ∀ (D : Addr) (H2 : Hp) (ys : List V), Same H1 H2 → H1 D = none → H2 D = some (.lst ys) → (∀ g, DVs g H2 ys (xs.map F)) → Q D H2) :
    ∀ (D : Addr), H1 D = none → ∃ W : Nat → Nat → Hp → Prop, (∃ m, W 0 m (upd H1 D (HO.lst []))) ∧ ∀ (i' m : Nat) (H : Hp), W i' m H →
      (Itl K a).stop i' H ∧ Q D H ∨ (Itl K a).go i' H ∧ ∃ Nx : Hp → Prop, (∀ H', Nx H' → ∃ m', m' < m ∧ W (i' + 1) m' H') ∧ ∀ (x : V) (H' : Hp), (Itl K a).yld i' H x H' →
        gName i x (wipe σ vs) H' fun σ2 H2 => wipe σ2 vs = wipe σ vs ∧ tYes σ2 H2 fun b H3 => if b = true then te σ2 H3 fun y H4 => ∃ acc, H4 D = some (HO.lst acc) ∧ acc.length < sizeLine ∧ Nx (upd H4 D (HO.lst (acc ++ [y]))) else Nx H3 := by
  intro D hD
  refine lc_it (walk_list (K := K) (a := a) (xs := xs.map V.str)) (fun i H' => ∃ ys, H' D = some (.lst ys) ∧ (∀ g, DVs g H' ys ((xs.take i).map F)) ∧ Same H1 H') ⟨[], upd_same, fun g => .nil, same_new hD⟩ (fun _ _ _ h => let ⟨_, _, _, s⟩ := h; SqL.of (s _ _ e)) ?_ ?_
  · rintro j x H2 H2' hj ⟨ys, h4, hv, s1⟩ ⟨rfl, hx⟩
    rw [List.getElem?_map] at hx
    obtain ⟨z, hz, rfl⟩ := Option.map_eq_some_iff.mp hx
    refine ⟨hw _, ?_⟩
    refine step z _ _ (List.mem_of_getElem? hz) s1 fun v H3 s3 hv3 => ?_
    have e3 := s3 _ _ h4
    have hpT : ∀ d ∈ (xs.take j).map F, pur d = true := fun d hd => by
      obtain ⟨y, hy, rfl⟩ := List.mem_map.mp hd
      exact hp y (List.mem_of_mem_take hy)
    have hps : purs ((xs.take j).map F) = true := by
      rw [purs_all]
      exact List.all_eq_true.mpr hpT
    have kt : Kt H3 (upd H3 D (HO.lst (ys ++ [v]))) := Kt.put e3
    have hlen : ys.length = j := by
      rw [(hv 0).len, List.length_map, List.length_take]
      rw [List.length_map] at hj
      omega
    refine ⟨_, e3, ?_, _, upd_same, fun g => ?_, ?_⟩
    · rw [List.length_map] at hj
      rw [hlen, sizeLine_eq]
      omega
    · rw [List.take_succ, hz, List.map_append]
      refine DVs.app (DVs.keepP kt hps ((hv g).keep (Kv.of s3))) ?_
      exact .cons (DV.keepP kt (hp z (List.mem_of_getElem? hz)) (hv3 g)) .nil
    · intro b o eb
      rw [upd_ne (ne_of_none eb hD)]
      exact s3 _ _ (s1 _ _ eb)
  · rintro H2 ⟨ys, h4, hv, s1⟩
    rw [List.length_map, List.take_length] at hv
    exact fin D H2 ys s1 hD h4 hv
theorem oD_pur {α : Type} {f : α → Dt} (h : ∀ a, pur (f a) = true) (o : Option α) : pur (oD f o) = true := by
  cases o with
  | none => rfl
  | some a => exact h a
theorem pair_pur (p : Nat × Nat) : pur (pairD p) = true := rfl
theorem none_any {α : Type} {f : α → List Dt} : ∀ os : List (Option α), (toPys (os.map (oD fun a => .tup (f a)))).any (fun z => PyData.eqv z .none) = os.any (fun o => o.isNone)
  | [] => rfl
  | none :: r => by
    rw [List.map_cons, List.any_cons]
    show (PyData.eqv .none .none || _) = _
    rw [show PyData.eqv .none .none = true by simp [PyData.eqv]]
    rfl
  | some a :: r => by
    have ih := none_any (f := f) r
    rw [List.map_cons, List.any_cons]
    show (PyData.eqv (.tuple (toPys (f a))) .none || (toPys (r.map (oD fun a => .tup (f a)))).any (fun z => PyData.eqv z .none)) = _
    rw [ih, show PyData.eqv (.tuple (toPys (f a))) .none = false by simp [PyData.eqv]]
    rfl
theorem deps_o {α : Type} {f : α → Dt} {k : Nat} (h : ∀ a, dep (f a) ≤ k) (os : List (Option α)) : deps (os.map (oD f)) ≤ k := deps_map fun o _ => by
  cases o with
  | none => exact Nat.zero_le _
  | some a => exact h a
/-! ### the pieces -/
def pcsL (l : List Nat) : List (List Nat) := (segs l).1 :: (segs l).2.map (·.2)
def sgsL (l : List Nat) : List Nat := (segs l).2.map (·.1)
theorem mem_sg3 {c : Nat} : decide (c ∈ sg3.cps.toList) = sgn c := by
  have e : sg3.cps.toList = [64, 60, 62] := by decide +kernel
  rw [e]
  unfold sgn
  rw [← Bool.decide_or, ← Bool.decide_or, decide_eq_decide]
  simp only [List.mem_cons, List.not_mem_nil, or_false]
theorem cut_step {l : List Nat} {i c : Nat} (h : l[i]? = some c) : l.drop i = c :: l.drop (i + 1) := by
  obtain ⟨hi, e⟩ := List.getElem?_eq_some_iff.mp h
  rw [← e]
  exact List.drop_eq_getElem_cons hi
theorem segs_len : ∀ l : List Nat, (segs l).2.length ≤ l.length ∧ (segs l).1.length ≤ l.length ∧ ∀ x ∈ (segs l).2, x.2.length ≤ l.length
  | [] => ⟨Nat.le_refl _, Nat.le_refl _, fun x hx => by cases hx⟩
  | c :: r => by
    obtain ⟨h1, h2, h3⟩ := segs_len r
    by_cases hs : sgn c = true
    · rw [segs_sgn hs]
      refine ⟨?_, Nat.zero_le _, fun x hx => ?_⟩
      · show (segs r).2.length + 1 ≤ r.length + 1
        omega
      · rcases List.mem_cons.mp hx with rfl | hx
        · show (segs r).1.length ≤ r.length + 1
          omega
        · have := h3 x hx
          show x.2.length ≤ r.length + 1
          omega
    · have e : segs (c :: r) = (c :: (segs r).1, (segs r).2) := if_neg hs
      rw [e]
      refine ⟨?_, ?_, fun x hx => ?_⟩
      · show (segs r).2.length ≤ r.length + 1
        omega
      · show (segs r).1.length + 1 ≤ r.length + 1
        omega
      · have := h3 x hx
        show x.2.length ≤ r.length + 1
        omega
theorem marks_none : ∀ t : List (Nat × List Nat), (∃ x ∈ t, pairOf x.2 = none) → marksOf t = none
  | (s, p) :: r, h => by
    show (match pairOf p, marksOf r with
      | some (f, k), some m => some ((s, f, k) :: m)
      | _, _ => none) = none
    obtain ⟨x, hx, hn⟩ := h
    rcases List.mem_cons.mp hx with rfl | hx
    · have hn : pairOf p = none := hn
      rw [hn]
    · rw [marks_none r ⟨x, hx, hn⟩]
      cases pairOf p <;> rfl
theorem marks_all : ∀ {t : List (Nat × List Nat)}, (∀ x ∈ t, pairOf x.2 ≠ none) → ∃ m, marksOf t = some m ∧ t.map (fun x => pairOf x.2) = m.map (fun y => some (y.2.1, y.2.2)) ∧ t.map (·.1) = m.map (·.1)
  | [], _ => ⟨[], rfl, rfl, rfl⟩
  | (s, p) :: r, h => by
    obtain ⟨m, h1, h2, h3⟩ := marks_all (t := r) fun x hx => h x (List.mem_cons_of_mem _ hx)
    cases e : pairOf p with
    | none => exact absurd e (h (s, p) List.mem_cons_self)
    | some q =>
      obtain ⟨f, k⟩ := q
      refine ⟨(s, f, k) :: m, ?_, ?_, ?_⟩
      · show (match pairOf p, marksOf r with
          | some (f, k), some m => some ((s, f, k) :: m)
          | _, _ => none) = _
        rw [e, h1]
      · rw [List.map_cons, List.map_cons, h2]
        show pairOf p :: _ = _
        rw [e]
      · rw [List.map_cons, List.map_cons, h3]
/-- a label is told where all pieces are pairs and there are few signs -/
theorem told_none {l : List Nat} (h : ((pcsL l).map pairOf).any (fun o => o.isNone) = true ∨ 8 < (sgsL l).length) : labOf l = none := by
  unfold labOf
  by_cases h8 : (segs l).2.length ≤ 8
  · rw [if_pos h8]
    have h : ((pcsL l).map pairOf).any (fun o => o.isNone) = true := by
      rcases h with h | h
      · exact h
      · unfold sgsL at h
        rw [List.length_map] at h
        omega
    obtain ⟨o, ho, hn⟩ := List.any_eq_true.mp h
    obtain ⟨p, hp, rfl⟩ := List.mem_map.mp ho
    have hn : pairOf p = none := by
      cases e : pairOf p with
      | none => rfl
      | some q => rw [e] at hn; cases hn
    rcases List.mem_cons.mp hp with rfl | hp
    · rw [hn]
    · obtain ⟨x, hx, rfl⟩ := List.mem_map.mp hp
      rw [marks_none _ ⟨x, hx, hn⟩]
      cases pairOf (segs l).1 <;> rfl
  · rw [if_neg h8]
theorem told_some {l : List Nat} (h1 : ((pcsL l).map pairOf).any (fun o => o.isNone) = false) (h2 : (sgsL l).length ≤ 8) :
    ∃ q m, labOf l = some (q, m) ∧ (pcsL l).map pairOf = some q :: m.map (fun y => some (y.2.1, y.2.2)) ∧ sgsL l = m.map (·.1) ∧ ∀ x ∈ m, sgn x.1 = true := by
  have hall : ∀ p ∈ pcsL l, pairOf p ≠ none := fun p hp z => by
    have := List.any_eq_false.mp h1 (pairOf p) (List.mem_map.mpr ⟨p, hp, rfl⟩)
    rw [z] at this
    exact this rfl
  obtain ⟨m, m1, m2, m3⟩ := marks_all (t := (segs l).2) fun x hx => hall x.2 (List.mem_cons_of_mem _ (List.mem_map.mpr ⟨x, hx, rfl⟩))
  cases e : pairOf (segs l).1 with
  | none => exact absurd e (hall _ List.mem_cons_self)
  | some q =>
    refine ⟨q, m, ?_, ?_, m3, fun x hx => ?_⟩
    · unfold labOf
      unfold sgsL at h2
      rw [List.length_map] at h2
      rw [if_pos h2, e, m1]
    · unfold pcsL
      rw [List.map_cons, e, List.map_map, ← m2]
      rfl
    · have hm : x.1 ∈ (segs l).2.map (·.1) := by
        rw [m3]
        exact List.mem_map.mpr ⟨x, hx, rfl⟩
      obtain ⟨y, hy, e⟩ := List.mem_map.mp hm
      rw [← e]
      exact segs_signs y hy
theorem emp_tl : tl ("" : Str) = [] := by decide +kernel
theorem occ_sg {s : Nat} (h : sgn s = true) : ∃ j rest, Builtin.Str.occurrences sg3 (sgS s) 0 sg3.length 1 = j :: rest ∧ marks3[j]? = some (mw s) := by
  rcases sgn_iff.mp h with rfl | rfl | rfl
  · exact ⟨0, [], by decide +kernel, by decide +kernel⟩
  · exact ⟨1, [], by decide +kernel, by decide +kernel⟩
  · exact ⟨2, [], by decide +kernel, by decide +kernel⟩
theorem cut_1 {xs : List V} {x : V} : cutV (x :: xs) (some 1) none = xs := by
  unfold cutV
  have h1 : HT.sIx (x :: xs).length 0 (some 1) = 1 := by
    rw [show (1 : Int) = ((1 : Nat) : Int) from rfl, HT.sIx_nat]
    show min 1 (xs.length + 1) = 1
    omega
  rw [h1, HT.sIx_none]
  show xs.take (xs.length + 1 - 1) = xs
  rw [Nat.add_sub_cancel, List.take_length]
theorem DVs.inv {g : Addr} {H : Hp} {ys : List V} {d : Dt} {ds : List Dt} (h : DVs g H ys (d :: ds)) : ∃ y zs, ys = y :: zs ∧ DV g H y d ∧ DVs g H zs ds := by
  cases h with
  | cons h r => exact ⟨_, _, rfl, h, r⟩
def spTold : Sp := fun vs H Q _ => ∃ z : Str, vs = [.str z] ∧ z.length ≤ 10000 ∧ ∀ (v : V) (H' : Hp), Same H H' → (∀ g, DV g H' v (oD labD (labOf (tl z)))) → Q v H'
section
variable {P : Program} {w : World} {K : PySem.W.Frag} {mg : Str → Option Value} {base : Heap}
theorem scTld : FnScope ["text", "pieces", "signs", "sign", "pairs", "way", "piece", "pair"] ["text"] (defScope sTold) := ⟨rfl, rfl, rfl, by decide +kernel, rfl, by decide +kernel, by decide +kernel⟩
theorem ok_tld {f : Addr} {fd : FuncData} (F : Fun K "label_told" "label_told" sTold f fd) (T : Bn mg) (cPr : Cl P w K mg base "_pair_told" ["text"] 2 spPr) (gM : GT K mg "MARKS" marks3) (gS : ∃ t, mg "MARK_SIGNS" = some (.str sg3 t)) (g8 : ∃ t, mg "MOST_MARKS" = some (.int 8 t)) :
    FnOk P w K mg base CX0 3 f fd ["text"] spTold := by
  obtain ⟨fPr, fdPr, GPr, mPr, kPr, bPr⟩ := cPr
  obtain ⟨aM, oM, eM, qM, lM, cM, dM⟩ := gM
  obtain ⟨tS, eS⟩ := gS
  obtain ⟨t8, e8⟩ := g8
  refine F.ok scTld (fun vs H Q E h => ?_) (fun cdv A outer s H vs Q E hr h => ?_)
  · obtain ⟨z, rfl, _⟩ := h
    rfl
  · obtain ⟨z, rfl, hz, k⟩ := h
    have hr2 : Room 2 _ := hr.mono (by decide)
    refine ⟨_, (pss_cons (ps_set (i := 1) scTld.nd rfl (Or.inl rfl) (pe_lst (pa_cons pe_str pa_nil)))
      (pss_cons (ps_set (i := 2) scTld.nd rfl (Or.inl rfl) (pe_lst pa_nil))
      (pss_cons (ps_for PassesOwn.never rfl (pi_str (pv 0)) (pg_name (i := 3) scTld.nd rfl (Or.inl rfl))
          (pss_one (ps_if (pt_cmpR op_in_sign (pv 3) (pe_glob (v := .str sg3) (by rfl) eS ⟨_, rfl⟩) (by rfl)) (pss_cons (ps_expr (qApp (pv 2) (pv 3)))
              (pss_one (ps_expr (qApp (pv 1) pe_str)))) (pss_one (ps_augS (pv 1) (pe_un un_neg pe_int) get_neg (pv 3) ip_addS set_list)))))
      (pss_cons (ps_setLc (i := 4) (own := [("piece", 6)]) (g := gName 6) (tt := tYes) (by rfl) scTld.nd rfl rfl (sw_true rfl rfl rfl (by decide +kernel)) (pi_list (pv 1)) (blkOk_by (own := [("piece", 6)]) (N := ["text", "pieces", "signs", "sign", "pairs", "way", "piece", "pair"]) (sc := defScope sTold) (by decide +kernel)) (fun _ _ _ _ _ => (pg_name (i := 6) scTld.nd rfl (Or.inl rfl))) (fun _ _ _ _ _ => pts_nil) (fun _ _ _ _ _ => (pe_call GPr hr2 (by rfl) mPr kPr bPr .nil pass0 (pa_cons (pv 6) pa_nil))))
      (pss_cons (ps_if (PW.pt (pw_or (pt_cmpR (op_inD (u65 hr)) pe_non (pv 4) (by rfl)) (pw_or1 (pt_cmpR op_gt (pe_callB call_len_seq (by rfl) T.len PySem.boot_len (pa_cons (pv 2) pa_nil)) (pe_glob (v := .int 8) (by rfl) e8 ⟨_, rfl⟩) (nomark _))))) (pss_one (ps_ret pe_non)) pss_nil)
      (pss_cons (ps_setLc (i := 5) (own := [("sign", 3), ("pair", 7)]) (g := gTup K 2 (gCons (gName 3) (gCons (gName 7) gNil))) (tt := tYes) (by rfl) scTld.nd rfl rfl (sw_true rfl rfl rfl (by decide +kernel)) (pi_zip (by rfl) T.zip (pa_cons (pv 2) (pa_cons (pe_slice sl_list (pv 4) (po_some pe_int) po_none) pa_nil))) (blkOk_by (own := [("sign", 3), ("pair", 7)]) (N := ["text", "pieces", "signs", "sign", "pairs", "way", "piece", "pair"]) (sc := defScope sTold) (by decide +kernel)) (fun _ _ _ _ _ => (pg_tup (by rfl) (pgs_cons (pg_name (i := 3) scTld.nd rfl (Or.inl rfl)) (pgs_cons (pg_name (i := 7) scTld.nd rfl (Or.inl rfl)) pgs_nil)))) (fun _ _ _ _ _ => pts_nil) (fun _ _ _ _ _ => (pe_op (show OpR _ _ (rCatA K) from op_catA) (pe_tup (pa_cons (pe_ix (show IxR _ (rIxT K) from ix_tup) (pe_glob (v := .ref aM) (by rfl) eM rfl) (pe_m1 PySem.F.slot_str_index PySem.F.type_str_index mt_sindex (pe_glob (v := .str sg3) (by rfl) eS ⟨_, rfl⟩) (pv 3)) (fun _ _ => rfl)) pa_nil)) (pv 7))))
      (pss_one (ps_ret (pe_op op_catA (pe_ix ix_list (pv 4) pe_int (fun _ _ => rfl)) (pe_tup (pa_cons (pe_callTy call_tuple_of (by rfl) T.tpl (by decide +kernel) (pa_cons (pv 5) pa_nil)) pa_nil))))))))))), ?_⟩
    have zl := TL.len_tl z
    obtain ⟨sl1, _, _⟩ := segs_len (tl z)
    refine ⟨(by show 1 ≤ sizeLine; decide), fun p hp => ?_⟩
    generalize hH1 : upd H p _ = H1
    obtain ⟨sp, ep⟩ := freshF hp hH1
    refine ⟨Nat.zero_le _, fun q hq => ?_⟩
    generalize hH2 : upd H1 q _ = H2
    obtain ⟨sq, eq⟩ := freshF hq hH2
    have hpq : p ≠ q := ne_of_none ep hq
    have hq0 : H q = none := sp.free hq
    refine ⟨_, rfl, z, rfl, for_it (walk_str (z := z)) (fun i σ H' => ∃ (sv : Option V) (ps : List Str) (x : Str) (ss : List Nat), σ = [some (.str z), some (.ref p), some (.ref q), sv, none, none, none, none] ∧ H' p = some (.lst ((ps ++ [x]).map V.str)) ∧ H' q = some (.lst ((ss.map sgS).map V.str)) ∧
        ps.map tl ++ ((tl x ++ (segs ((tl z).drop i)).1) :: (segs ((tl z).drop i)).2.map (·.2)) = pcsL (tl z) ∧ ss ++ (segs ((tl z).drop i)).2.map (·.1) = sgsL (tl z) ∧ ps.length ≤ i ∧ ss.length ≤ i ∧ x.length ≤ i ∧ Same H H')
      ⟨none, [], "", [], rfl, sq _ _ ep, eq, (by rw [List.drop_zero, emp_tl]; rfl), (by rw [List.drop_zero]; rfl), Nat.le_refl _, Nat.le_refl _, (by decide +kernel), sp.trans sq⟩ (fun _ _ _ _ _ => trivial) ?_ ?_⟩
    · rintro i v σ H3 H3' hi ⟨sv, ps, x, ss, rfl, e1, e2, r1, r2, b1, b2, b3, s3⟩ ⟨rfl, c, hx, rfl⟩
      have hc : (tl z)[i]? = some c := by rw [← hx, Array.getElem?_toList]
      have hil : i < 10000 := by
        have := (List.getElem?_eq_some_iff.mp hc).1
        omega
      have ed := cut_step hc
      refine ⟨_, rfl, c, sg3, rfl, rfl, _, rfl, ?_⟩
      rw [mem_sg3]
      cases hs : sgn c with
      | true =>
        refine ifT rfl ?_
        rw [ed, segs_sgn hs] at r1 r2
        refine ⟨_, rfl, .inl ⟨rfl, _, SqL.of e2⟩, _, rfl, _, _, _, rfl, rfl, e2, ?_, ?_⟩
        · rw [List.length_map, List.length_map, sizeLine_eq]
          omega
        refine ⟨_, rfl, .inl ⟨rfl, _, SqL.of (by rw [upd_ne hpq]; exact e1)⟩, _, _, _, rfl, rfl, (by rw [upd_ne hpq]; exact e1), ?_, ?_⟩
        · rw [List.length_map, List.length_append, List.length_singleton, sizeLine_eq]
          omega
        refine ⟨_, ps ++ [x], "", ss ++ [c], rfl, ?_, ?_, ?_, ?_, ?_, ?_, ?_, ?_⟩
        · rw [upd_same, List.map_append (l₁ := ps ++ [x])]
          rfl
        · rw [upd_ne hpq.symm, upd_same, List.map_append, List.map_append]
          rfl
        · rw [← r1, emp_tl, List.map_append, List.append_assoc, List.append_nil]
          rfl
        · rw [← r2, List.append_assoc]
          rfl
        · rw [List.length_append, List.length_singleton]
          omega
        · rw [List.length_append, List.length_singleton]
          omega
        · have : ("" : Str).length = 0 := by decide +kernel
          rw [this]
          omega
        · intro b o e
          rw [upd_ne (ne_of_none e hp), upd_ne (ne_of_none e hq0)]
          exact s3 _ _ e
      | false =>
        refine ifF rfl ?_
        have es : segs (c :: (tl z).drop (i + 1)) = (c :: (segs ((tl z).drop (i + 1))).1, (segs ((tl z).drop (i + 1))).2) := if_neg (by rw [hs]; exact Bool.false_ne_true)
        rw [ed, es] at r1 r2
        have el : (ps ++ [x]).map V.str = ps.map V.str ++ [V.str x] := by
          rw [List.map_append]
          rfl
        refine ⟨_, rfl, _, rfl, p, _, -1, .str x, rfl, rfl, by decide, SqL.of e1, (by rw [el]; exact atI_last _ _), _, rfl, x, _, rfl, rfl, (by rw [sizeLine_eq]; show x.length + 1 ≤ _; omega), ?_⟩
        refine ⟨p, _, -1, ps.length, rfl, rfl, e1, ?_, ?_⟩
        · unfold ixN
          rw [if_neg (by decide), List.length_map, List.length_append, List.length_singleton, if_pos (by omega)]
          congr 1
          omega
        refine ⟨_, ps, x ++ ⟨#[c]⟩, ss, rfl, ?_, ?_, ?_, ?_, ?_, ?_, ?_, ?_⟩
        · rw [upd_same, el, List.set_append_right _ _ (by rw [List.length_map]; exact Nat.le_refl _), List.length_map, Nat.sub_self, List.map_append]
          rfl
        · rw [upd_ne hpq.symm]
          exact e2
        · rw [← r1, TL.tl_append, List.append_assoc]
          rfl
        · exact r2
        · omega
        · omega
        · rw [app_len]
          show x.length + 1 ≤ i + 1
          omega
        · intro b o e
          rw [upd_ne (ne_of_none e hp)]
          exact s3 _ _ e
    rintro σ H3 ⟨sv, ps, x, ss, rfl, e1, e2, r1, r2, b1, b2, b3, s3⟩
    rw [show z.cps.size = (tl z).length from zl, List.drop_length] at r1 r2
    have r1 : ps.map tl ++ [tl x] = pcsL (tl z) := by
      rw [← r1]
      show _ = ps.map tl ++ [tl x ++ []]
      rw [List.append_nil]
    have r2 : ss = sgsL (tl z) := by
      rw [← r2]
      exact (List.append_nil _).symm
    have zc : z.cps.size = z.length := rfl
    have hP : (ps ++ [x]).map tl = pcsL (tl z) := by
      rw [List.map_append]
      exact r1
    have hlp : (ps ++ [x]).length ≤ 10001 := by
      rw [List.length_append, List.length_singleton]
      omega
    have hlen : ∀ y ∈ ps ++ [x], y.length ≤ 10000 := fun y hy => by
      have : tl y ∈ pcsL (tl z) := by
        rw [← hP]
        exact List.mem_map.mpr ⟨y, hy, rfl⟩
      obtain ⟨_, q1, q2⟩ := segs_len (tl z)
      rw [TL.len_tl]
      rcases List.mem_cons.mp this with e | e
      · rw [e]
        omega
      · obtain ⟨u, hu, e⟩ := List.mem_map.mp e
        rw [← e]
        have := q2 u hu
        omega
    refine ⟨_, rfl, p, rfl, ⟨_, SqL.of e1⟩, ?_⟩
    refine lc_strsD (K := K) (F := fun y => oD pairD (pairOf (tl y))) (i := 6) (vs := [6]) (fun y _ => oD_pur pair_pur _) (by omega) e1 (fun x => rfl) ?_ ?_
    · intro y H4 R hy s4 hR
      exact ⟨_, rfl, y, rfl, hlen y hy, fun v H5 s5 hv => hR v H5 s5 hv⟩
    intro D H4 ys s4 hD eD hv
    have eF : (ps ++ [x]).map (fun y => oD pairD (pairOf (tl y))) = ((pcsL (tl z)).map pairOf).map (oD pairD) := by
      rw [← hP, List.map_map, List.map_map]
      rfl
    rw [eF] at hv
    have hps : purs (((pcsL (tl z)).map pairOf).map (oD pairD)) = true := purs_map fun o _ => oD_pur pair_pur o
    have hdp : deps (((pcsL (tl z)).map pairOf).map (oD pairD)) ≤ 63 := Nat.le_trans (deps_o (k := 1) (fun a => Nat.le_refl _) _) (by decide)
    refine ⟨_, rfl, .none, toPys (((pcsL (tl z)).map pairOf).map (oD pairD)), .non, .lst (SqL.of eD) (dvs_dp hps (hv 0)), rfl, shaped_lst hps hdp, _, rfl, ?_⟩
    rw [show (toPys (((pcsL (tl z)).map pairOf).map (oD pairD))).any (fun z => PyData.eqv z .none) = ((pcsL (tl z)).map pairOf).any (fun o => o.isNone) from none_any (f := fun p : Nat × Nat => [Dt.int (p.1 : Nat), Dt.int (p.2 : Nat)]) _]
    have s14 : Same H H4 := s3.trans s4
    cases hany : ((pcsL (tl z)).map pairOf).any (fun o => o.isNone) with
    | true =>
      refine ifT rfl ?_
      rw [told_none (.inl hany)] at k
      exact k _ H4 s14 fun g => .non
    | false =>
      refine ifF rfl ?_
      have e2' : H4 q = some (.lst ((ss.map sgS).map V.str)) := s4 _ _ e2
      refine ⟨_, rfl, q, _, rfl, .inl (SqL.of e2'), _, _, rfl, rfl, _, rfl, ?_⟩
      by_cases h8 : (sgsL (tl z)).length ≤ 8
      rotate_left
      · rw [told_none (.inr (by omega))] at k
        refine ifT (decide_eq_true (by rw [List.length_map, List.length_map, r2]; omega)) ?_
        exact k _ H4 s14 fun g => .non
      refine ifF (decide_eq_false (by rw [List.length_map, List.length_map, r2]; omega)) ?_
      obtain ⟨q0, m, m1, m2, m3, m4⟩ := told_some hany h8
      rw [m2] at hv
      have hml : m.length ≤ 8 := by
        have := congrArg List.length m3
        rw [List.length_map] at this
        omega
      obtain ⟨y0, zs, rfl, _, _⟩ := (hv 0).inv
      have hv0 : ∀ g, DV g H4 y0 (pairD q0) := fun g => by
        obtain ⟨y0', zs', e, h1, _⟩ := (hv g).inv
        injection e with e1 e2
        rw [e1]
        exact h1
      have hvs : ∀ g, DVs g H4 zs (m.map fun y => pairD (y.2.1, y.2.2)) := fun g => by
        obtain ⟨y0', zs', e, _, h2⟩ := (hv g).inv
        injection e with e1 e2
        rw [e2]
        rw [List.map_map] at h2
        exact h2
      refine ⟨_, rfl, _, rfl, _, rfl, D, _, rfl, SqL.of eD, fun r hr => ?_⟩
      rw [cut_1]
      generalize hH5 : upd H4 r _ = H5
      obtain ⟨sr, er⟩ := freshF hr hH5
      have s15 := s14.trans sr
      have e2'' : H5 q = some (.lst ((ss.map sgS).map V.str)) := sr _ _ e2'
      have hzl : zs.length = m.length := by
        rw [(hvs 0).len, List.length_map]
      have hsl : ((ss.map sgS).map V.str).length = m.length := by
        rw [List.length_map, List.length_map, r2, m3, List.length_map]
      refine ⟨q, r, _, _, rfl, SqL.of e2'', SqL.of er, ?_⟩
      intro W hW
      refine lc_it (walk_zip (K := K) (a := q) (b := r) (xs := (ss.map sgS).map V.str) (ys := zs) (n := m.length) (by rw [hsl, hzl, Nat.min_self])) (fun i H' => ∃ ws, H' W = some (.lst ws) ∧ (∀ g, DVs g H' ws ((m.take i).map markD)) ∧ Same H5 H') ⟨[], upd_same, fun g => .nil, same_new hW⟩
        (fun i H' _ ⟨_, _, _, s⟩ => ⟨SqL.of (s _ _ e2''), SqL.of (s _ _ er)⟩) ?_ ?_
      · rintro i v H6 H6' hi ⟨ws, w1, w2, s6⟩ ⟨T0, xv, yv, rfl, hT, rfl, hxv, hyv⟩
        obtain ⟨mm, hmm⟩ : ∃ mm, m[i]? = some mm := ⟨m[i], List.getElem?_eq_getElem hi⟩
        obtain rfl : xv = .str (sgS mm.1) := by
          rw [r2, m3, List.map_map, List.map_map] at hxv
          have hxv : (m.map ((V.str ∘ sgS) ∘ fun x => x.1))[i]? = some xv := hxv
          rw [List.getElem?_map, hmm] at hxv
          exact (Option.some.inj hxv).symm
        obtain ⟨d, hd, hdv⟩ := (hvs 0).at_ hyv
        rw [List.getElem?_map, hmm] at hd
        obtain rfl := Option.some.inj hd
        have sT := same_new (o := .tup [V.str (sgS mm.1), yv]) hT
        generalize hH7 : upd H6 T0 _ = H7
        have eT : H7 T0 = some (.tup [V.str (sgS mm.1), yv]) := by rw [← hH7, upd_same]
        have s67 : Same H6 H7 := by rw [← hH7]; exact sT
        obtain ⟨bp, vx, vy, rfl, ebp, hx1, hx2⟩ := (hdv.keep (Kv.of (sr.trans (s6.trans s67)))).tup2
        obtain rfl := hx1.int_inv
        obtain rfl := hx2.int_inv
        obtain ⟨j, rest, o1, o2⟩ := occ_sg (m4 mm (List.mem_of_getElem? hmm))
        refine ⟨T0, _, rfl, SqT.of eT, (by rfl), _, _, rfl, _, _, rfl, rfl, rfl, ?_⟩
        refine ⟨⟨_, rfl⟩, _, rfl, sg3, sgS mm.1, j, rest, rfl, rfl, o1, aM, _, _, _, rfl, rfl, qM _, atI_nat (by rw [List.getElem?_map, o2]; rfl), (by show 1 ≤ sizeLine; decide), fun t ht => ?_⟩
        generalize hH8 : upd H7 t _ = H8
        obtain ⟨st, et⟩ := freshF ht hH8
        refine ⟨_, rfl, t, bp, _, _, rfl, rfl, SqT.of et, SqT.of (st _ _ ebp), (by show 1 + 2 ≤ sizeLine; decide), (fun z => by cases z), (fun _ z => by cases z), fun _ _ u hu => ?_⟩
        generalize hH9 : upd H8 u _ = H9
        obtain ⟨su, eu⟩ := freshF hu hH9
        have s79 := st.trans su
        have w1' := s79 _ _ (s67 _ _ w1)
        have hlw : ws.length = i := by
          rw [(w2 0).len, List.length_map, List.length_take]
          omega
        have kt : Kt H9 (upd H9 W (HO.lst (ws ++ [V.ref u]))) := Kt.put w1'
        have hpt : purs ((m.take i).map markD) = true := purs_map fun a _ => mark_pur a
        refine ⟨_, w1', ?_, _, upd_same, fun g => ?_, ?_⟩
        · rw [hlw, sizeLine_eq]
          omega
        · rw [List.take_succ, hmm, List.map_append]
          refine DVs.app (DVs.keepP kt hpt ((w2 g).keep (Kv.of (s67.trans s79)))) ?_
          refine .cons (DV.keepP (g := 0) kt (mark_pur mm) (.tup eu (by show 3 ≤ 1000; decide) (.cons (.str ?_) (.cons (.int _) (.cons (.int _) .nil))))) .nil
          have : (mw mm.1).length ≤ 5 := by
            have h := mw_mem (m4 mm (List.mem_of_getElem? hmm))
            have q : ∀ w ∈ marks3, w.length ≤ 5 := by decide +kernel
            exact q _ h
          omega
        · intro b o e
          rw [upd_ne (ne_of_none e hW)]
          exact s79 _ _ (s67 _ _ (s6 _ _ e))
      · rintro H6 ⟨ws, w1, w2, s6⟩
        rw [List.take_length] at w2
        have eD6 := s6 _ _ (sr _ _ eD)
        refine ⟨_, rfl, D, _, 0, y0, rfl, rfl, SqL.of eD6, atI_nat (j := 0) rfl, _, rfl, W, ws, rfl, .inl ⟨SqL.of w1, fun l hl => ?_⟩⟩
        generalize hH7 : upd H6 l _ = H7
        obtain ⟨sl, el⟩ := freshF hl hH7
        refine ⟨(by show 1 ≤ sizeLine; decide), fun t ht => ?_⟩
        generalize hH8 : upd H7 t _ = H8
        obtain ⟨st, et⟩ := freshF ht hH8
        have s48 := sr.trans (s6.trans (sl.trans st))
        obtain ⟨bp, vx, vy, rfl, ebp, hx1, hx2⟩ := ((hv0 0).keep (Kv.of s48)).tup2
        obtain rfl := hx1.int_inv
        obtain rfl := hx2.int_inv
        refine ⟨bp, t, _, _, rfl, rfl, SqT.of ebp, SqT.of et, (by show 2 + 1 ≤ sizeLine; decide), (fun z => by cases z), (fun _ z => by cases z), fun _ _ u hu => ?_⟩
        generalize hH9 : upd H8 u _ = H9
        obtain ⟨su, eu⟩ := freshF hu hH9
        rw [m1] at k
        refine k _ H9 (s14.trans (s48.trans su)) fun g => ?_
        exact .tup eu (by show 3 ≤ 1000; decide) (.cons (.int _) (.cons (.int _) (.cons (.tup ((st.trans su) _ _ el) (by show (m.map markD).length ≤ 1000; rw [List.length_map]; omega) ((w2 g).keep (Kv.of (sl.trans (st.trans su))))) .nil)))
end
end K80

set_option Elab.async false
set_option linter.all false
set_option pp.maxSteps 900
set_option maxRecDepth 100000
set_option maxHeartbeats 4000000
namespace K80
open PySem PySem.Spec PyProof.Rows L2
open TL (tl)
abbrev sLX : Stmt := top 32
abbrev sLO : Stmt := top 34
abbrev sTW : Stmt := top 38
abbrev sWT : Stmt := top 40
def wordB : Dt → Bool
  | .tup [a] => inS plain6 a
  | .tup [a, b] => inS lab2 a && codeB b
  | _ => false
def wordF : Dt → Bool
  | .tup [a] => flat a
  | .tup [a, b] => flat a && codeF b
  | _ => true
theorem word_no {d : Dt} (h1 : lenIs 1 d = false) (h2 : lenIs 2 d = false) : wordB d = false := by
  cases d with
  | tup l =>
    match l, h1, h2 with
    | [], _, _ => rfl
    | [_], h, _ => cases h
    | [_, _], _, h => cases h
    | _ :: _ :: _ :: _, _, _ => rfl
  | _ => rfl
theorem len1_two {d : Dt} (h : lenIs 1 d = true) : ∃ a, d = .tup [a] := len1 h
theorem wordB_of {p : PW} (h : okW p) : wordB (wordD p) = true ∧ wordF (wordD p) = true := by
  cases p with
  | pl s => exact ⟨decide_eq_true h, rfl⟩
  | lb w L =>
    obtain ⟨h1, h2⟩ := h
    obtain ⟨c1, c2⟩ := lab_ok h2
    refine ⟨?_, ?_⟩
    · show (decide (w ∈ lab2) && codeB (labD L)) = true
      rw [decide_eq_true h1, c1]
      rfl
    · show (true && codeF (labD L)) = true
      rw [c2]
      rfl
/-- an own error's class, without an __init__ of its own -/
structure Er (K : PySem.W.Frag) (mg : Str → Option Value) (x : Str) (C : Addr) : Prop where
  mC : mg x = some (.ref C)
  exI : PySem.W.excIn K C [.type "ValueError", .type "Exception", .type "BaseException", .type "object"] "ValueError.__new__" = true
  kC : PySem.W.keepIn K (.ref C) = true
  sub : PySem.W.subIn K (.ref C) (.type "BaseException") = some true
  ty : PySem.W.typeIn K (.ref C) = some (.type "type")
def toLab : Dt → Option Lab
  | .str z => labOf (tl z)
  | _ => none
def spLX (C : Addr) : Sp := fun vs H Q Ex => ∃ (g : Addr) (v : V) (d : Dt), vs = [v] ∧ DV g H v d ∧ codeF d = true ∧ ((∃ L, d = labD L ∧ okL L ∧ ∀ H', Same H H' → Q (.str (labT L)) H') ∨ (codeB d = false ∧ ∀ H', Same H H' → Ex (.ref C) none H'))
def spLO (C : Addr) : Sp := fun vs H Q Ex => ∃ (g : Addr) (v : V) (d : Dt), vs = [v] ∧ DV g H v d ∧ (∀ L, toLab d = some L → ∀ (v' : V) (H' : Hp), Same H H' → (∀ g, DV g H' v' (labD L)) → Q v' H') ∧ (toLab d = none → ∀ H', Same H H' → Ex (.ref C) none H')
def spTW : Sp := fun vs H Q _ => ∃ (g : Addr) (v : V) (p : PW), vs = [v] ∧ DV g H v (wordD p) ∧ okW p ∧ ∀ H', Same H H' → Q (.str (wordT p)) H'
def spWT : Sp := fun vs H Q _ => ∃ z : Str, vs = [.str z] ∧ z.length ≤ 10000 ∧ ∀ (v : V) (H' : Hp), Same H H' → (∀ g, DV g H' v (oD wordD (wordOf z))) → Q v H'
section
variable {P : Program} {w : World} {K : PySem.W.Frag} {mg : Str → Option Value} {base : Heap}
theorem scWd : FnScope ["value"] ["value"] (defScope sWd) := ⟨rfl, rfl, rfl, by decide +kernel, rfl, by decide +kernel, by decide +kernel⟩
theorem ok_wd {f : Addr} {fd : FuncData} (F : Fun K "is_word" "is_word" sWd f fd) (cTof : Cl P w K mg base "is_tuple_of" ["value", "many"] 1 spTof) (cCode : Cl P w K mg base "is_code_label" ["value"] 5 (spIf codeF codeB))
    (gP : GT K mg "PLAIN_WORDS" plain6) (gL : GT K mg "LABEL_WORDS" lab2) : FnOk P w K mg base CX0 6 f fd ["value"] (spIf wordF wordB) := by
  obtain ⟨fTof, fdTof, GTof, mTof, kTof, bTof⟩ := cTof
  obtain ⟨fCode, fdCode, GCode, mCode, kCode, bCode⟩ := cCode
  obtain ⟨aP, oP, eP, qP, lP, cP, dP⟩ := gP
  obtain ⟨aL, oL, eL, qL, lL, cL, dL⟩ := gL
  refine F.ok scWd (fun vs H Q E h => ?_) (fun cdv A outer s H vs Q E hr h => ?_)
  · obtain ⟨g, v, d, rfl, _⟩ := h
    rfl
  · obtain ⟨g, v, d, rfl, hd, hf, k⟩ := h
    have hr1 : Room 1 _ := hr.mono (by decide)
    have hr5 : Room 5 _ := hr.mono (by decide)
    refine ⟨_, (pss_cons (ps_if (pt_val (pe_call GTof hr1 (by rfl) mTof kTof bTof .nil pass0 (pa_cons (pv 0) (pa_cons pe_int pa_nil)))) (pss_one (ps_ret (pe_cmpR op_in_seq (pe_ix ix_tup (pv 0) pe_int (fun _ _ => rfl)) (pe_glob (v := .ref aP) (by rfl) eP rfl) (by rfl)))) pss_nil)
      (pss_one (ps_ret (pe_and (pe_call GTof hr1 (by rfl) mTof kTof bTof .nil pass0 (pa_cons (pv 0) (pa_cons pe_int pa_nil))) (pe_and (pe_cmpR op_in_seq (pe_ix ix_tup (pv 0) pe_int (fun _ _ => rfl)) (pe_glob (v := .ref aL) (by rfl) eL rfl) (by rfl)) (pe_one (pe_call GCode hr5 (by rfl) mCode kCode bCode .nil pass0 (pa_cons (pe_ix ix_tup (pv 0) pe_int (fun _ _ => rfl)) pa_nil)))))))), ?_⟩
    refine ⟨_, rfl, g, v, d, 1, rfl, hd, fun H1 s1 => ⟨_, rfl, ?_⟩⟩
    have hd1 := hd.keep (Kv.of s1)
    cases h1 : lenIs 1 d with
    | true =>
      obtain ⟨a, rfl⟩ := len1 h1
      refine ifT rfl ?_
      obtain ⟨b, xs, rfl, eb, _, r⟩ := hd1.tup_inv
      cases r with
      | cons ha r =>
        cases r
        obtain ⟨f1, f2, f3⟩ := flat_in ha hf plain6
        refine ⟨_, rfl, b, _, 0, _, rfl, rfl, SqT.of eb, rfl, aP, _, rfl, .inr (qP _), f1, f2, ?_⟩
        have q := k H1 s1
        rw [show wordB (.tup [a]) = inS plain6 a from rfl, ← f3] at q
        exact q
    | false =>
      refine ifF rfl ?_
      refine ⟨_, rfl, g, v, d, 2, rfl, hd1, fun H2 s2 => ⟨_, rfl, ?_⟩⟩
      have s12 := s1.trans s2
      cases h2 : lenIs 2 d with
      | false =>
        rw [word_no h1 h2] at k
        exact iteF (k H2 s12)
      | true =>
        obtain ⟨a, c, rfl⟩ := len2 h2
        obtain ⟨b, vx, vy, rfl, eb, ha, hc⟩ := (hd1.keep (Kv.of s2)).tup2
        have hf' : (flat a && codeF c) = true := hf
        rw [Bool.and_eq_true] at hf'
        obtain ⟨f1, f2, f3⟩ := flat_in ha hf'.1 lab2
        have e0 : wordB (.tup [a, c]) = (inS lab2 a && codeB c) := rfl
        rw [e0] at k
        refine iteT ⟨_, rfl, b, _, 0, _, rfl, rfl, SqT.of eb, rfl, aL, _, rfl, .inr (qL _), f1, f2, _, rfl, ?_⟩
        rw [show (if false = true then !inV vx (lab2.map V.str) else inV vx (lab2.map V.str)) = inS lab2 a from f3]
        cases n1 : inS lab2 a with
        | false =>
          rw [n1] at k
          exact iteF (k H2 s12)
        | true =>
          rw [n1] at k
          exact iteT ⟨_, rfl, b, _, 1, _, rfl, rfl, SqT.of eb, rfl, g, vy, c, rfl, hc, hf'.2, fun H3 s3 => k H3 (s12.trans s3)⟩
theorem scLx : FnScope ["label"] ["label"] (defScope sLX) := ⟨rfl, rfl, rfl, by decide +kernel, rfl, by decide +kernel, by decide +kernel⟩
theorem ok_lx {f C : Addr} {fd : FuncData} (F : Fun K "label_text" "label_text" sLX f fd) (R : Er K mg "BadLabel" C) (cCode : Cl P w K mg base "is_code_label" ["value"] 5 (spIf codeF codeB)) (cTL : Cl P w K mg base "text_of_label" ["label"] 1 spTL) : FnOk P w K mg base (L2.CX P w) 6 f fd ["label"] (spLX C) := by
  obtain ⟨fCode, fdCode, GCode, mCode, kCode, bCode⟩ := cCode
  obtain ⟨fTL, fdTL, GTL, mTL, kTL, bTL⟩ := cTL
  refine F.okX scLx (fun vs H Q E h => ?_) (fun cdv A outer s H vs Q Ex hr h => ?_)
  · obtain ⟨g, v, d, rfl, _⟩ := h
    rfl
  · obtain ⟨g, v, d, rfl, hd, hf, h⟩ := h
    have hr1 : Room 1 _ := hr.mono (by decide)
    refine ⟨_, (pss_cons (ps_if (pt_not (pt_val (pe_call GCode hr (by rfl) mCode kCode bCode .nil pass0 (pa_cons (pv 0) pa_nil)))) (pss_one (ps_raise rfl (takes_of rfl rfl rfl rfl) (pmk_own PySem.F.excBase_ValueError R.exI R.mC R.kC (raises_own R.sub R.ty) (by rfl)))) pss_nil)
      (pss_one (ps_ret (pe_call GTL hr1 (by rfl) mTL kTL bTL .nil pass0 (pa_cons (pv 0) pa_nil))))), ?_⟩
    refine ⟨_, rfl, g, v, d, rfl, hd, hf, fun H1 s1 => ⟨_, rfl, ?_⟩⟩
    rcases h with ⟨L, rfl, hL, k⟩ | ⟨hb, k⟩
    · refine ifF (by rw [(lab_ok hL).1]; rfl) ?_
      exact ⟨_, rfl, g, v, L, rfl, hd.keep (Kv.of s1), hL, fun H2 s2 => k H2 (s1.trans s2)⟩
    · refine ifT (by rw [hb]; rfl) ?_
      exact k H1 s1
theorem scLo : FnScope ["text", "label"] ["text"] (defScope sLO) := ⟨rfl, rfl, rfl, by decide +kernel, rfl, by decide +kernel, by decide +kernel⟩
theorem ok_lo {f C : Addr} {fd : FuncData} (F : Fun K "label_of" "label_of" sLO f fd) (T : Bn mg) (R : Er K mg "BadLabelText" C) (cTold : Cl P w K mg base "label_told" ["text"] 3 spTold) : FnOk P w K mg base (L2.CX P w) 4 f fd ["text"] (spLO C) := by
  obtain ⟨fTold, fdTold, GTold, mTold, kTold, bTold⟩ := cTold
  refine F.okX scLo (fun vs H Q E h => ?_) (fun cdv A outer s H vs Q Ex hr h => ?_)
  · obtain ⟨g, v, d, rfl, _⟩ := h
    rfl
  · obtain ⟨g, v, d, rfl, hd, k1, k2⟩ := h
    obtain ⟨t, ht, q1, q2, q3, q4⟩ := hd.ty (K := K)
    refine ⟨_, (pss_cons (ps_set (i := 1) scLo.nd rfl (Or.inl rfl) (pe_ifExp (pt_val (pe_callB call_isi (by rfl) T.isi (by decide +kernel) (pa_cons (pv 0) (pa_cons (pe_bltn (v := .ty "str") (by rfl) T.str boot_str rfl) pa_nil)))) (pe_call GTold hr (by rfl) mTold kTold bTold .nil pass0 (pa_cons (pv 0) pa_nil)) pe_non))
      (pss_cons (ps_if (pt_cmpR op_isN (pv 1) pe_non (nomark _)) (pss_one (ps_raise rfl (takes_of rfl rfl rfl rfl) (pmk_own PySem.F.excBase_ValueError R.exI R.mC R.kC (raises_own R.sub R.ty) (by rfl)))) pss_nil)
      (pss_one (ps_ret (pv 1))))), ?_⟩
    refine ⟨_, rfl, _, _, _, _, _, rfl, .ty "str", ht, q1, _, rfl, ?_⟩
    have bad : isStr d = false → toLab d = none := fun e => by
      cases d with
      | str z => cases e
      | _ => rfl
    cases hs : isStr d with
    | false =>
      refine ifF rfl ?_
      refine ⟨_, rfl, ?_⟩
      refine ⟨rfl, _, rfl, ifT rfl ?_⟩
      exact k2 (bad hs) H (Same.refl H)
    | true =>
      refine ifT rfl ?_
      cases hd with
      | @str z hz =>
        refine ⟨_, rfl, z, rfl, hz, fun v' H' s' hv => ?_⟩
        refine ⟨_, rfl, ?_⟩
        cases hl : labOf (tl z) with
        | none =>
          rw [hl] at hv
          cases hv 0
          refine ⟨rfl, _, rfl, ifT rfl ?_⟩
          exact k2 hl H' s'
        | some L =>
          rw [hl] at hv
          obtain ⟨b, a, xs, rfl, eb, _⟩ := lab_at (hv 0)
          refine ⟨rfl, _, rfl, ifF rfl ?_⟩
          exact ⟨_, rfl, k1 L hl _ H' s' hv⟩
      | _ => cases hs
theorem scTw : FnScope ["word"] ["word"] (defScope sTW) := ⟨rfl, rfl, rfl, by decide +kernel, rfl, by decide +kernel, by decide +kernel⟩
theorem ok_tw {f : Addr} {fd : FuncData} (F : Fun K "text_of_word" "text_of_word" sTW f fd) (T : Bn mg) (cTL : Cl P w K mg base "text_of_label" ["label"] 1 spTL) : FnOk P w K mg base CX0 2 f fd ["word"] spTW := by
  obtain ⟨fTL, fdTL, GTL, mTL, kTL, bTL⟩ := cTL
  refine F.ok scTw (fun vs H Q E h => ?_) (fun cdv A outer s H vs Q E hr h => ?_)
  · obtain ⟨g, v, p, rfl, _⟩ := h
    rfl
  · obtain ⟨g, v, p, rfl, hd, hp, k⟩ := h
    have hr1 : Room 1 _ := hr.mono (by decide)
    refine ⟨_, (pss_one (ps_ret (pe_ifExp (pt_cmpR op_eq (pe_callB call_len_seq (by rfl) T.len PySem.boot_len (pa_cons (pv 0) pa_nil)) pe_int (nomark _)) (pe_ix ix_tup (pv 0) pe_int (fun _ _ => rfl)) (pe_joined (.cons (pe_fmt (pe_ix ix_tup (pv 0) pe_int (fun _ _ => rfl))) (.cons pe_str (.cons (pe_fmt (pe_call GTL hr1 (by rfl) mTL kTL bTL .nil pass0 (pa_cons (pe_ix ix_tup (pv 0) pe_int (fun _ _ => rfl)) pa_nil))) .nil))))))), ?_⟩
    cases p with
    | pl s =>
      obtain ⟨b, xs, rfl, eb, _, r⟩ := hd.tup_inv
      cases r with
      | cons ha r =>
        cases r
        obtain ⟨rfl, hs⟩ := ha.str_inv
        refine ⟨_, rfl, b, _, rfl, .inr (SqT.of eb), rfl, _, rfl, ?_⟩
        refine ifT rfl ?_
        exact ⟨_, rfl, b, _, 0, _, rfl, rfl, SqT.of eb, rfl, k H (Same.refl H)⟩
    | lb w L =>
      obtain ⟨h1, h2⟩ := hp
      obtain ⟨b, vx, vy, rfl, eb, hx, hy⟩ := hd.tup2
      obtain ⟨rfl, hs⟩ := hx.str_inv
      have l1 := (lab2_free w h1).2.1
      have l2 := (labT_len h2).1
      have l3 : colS.length = 1 := by decide +kernel
      refine ⟨_, rfl, b, _, rfl, .inr (SqT.of eb), rfl, _, rfl, ?_⟩
      refine ifF (show decide (V.int ((2 : Nat) : Int) = V.int 1) = false by decide) ?_
      refine ⟨_, rfl, b, _, 0, _, rfl, rfl, SqT.of eb, rfl, .inl ⟨w, rfl, by rw [sizeLine_eq]; omega, _, rfl, by rw [empty_app, sizeLine_eq]; omega, _, rfl, (by rw [empty_app, app_len, sizeLine_eq]; show w.length + colS.length ≤ _; omega), _, rfl, b, _, 1, _, rfl, rfl, SqT.of eb, rfl, g, vy, L, rfl, hy, h2, fun H1 s1 => ?_⟩⟩
      refine .inl ⟨_, rfl, by rw [sizeLine_eq]; omega, _, rfl, (by rw [empty_app, app_len, app_len, sizeLine_eq]; show w.length + colS.length + (labT L).length ≤ _; omega), ?_⟩
      rw [empty_app]
      exact k H1 s1
theorem scWt : FnScope ["text", "word", "colon", "behind", "label"] ["text"] (defScope sWT) := ⟨rfl, rfl, rfl, by decide +kernel, rfl, by decide +kernel, by decide +kernel⟩
theorem ok_wt {f : Addr} {fd : FuncData} (F : Fun K "word_told" "word_told" sWT f fd) (cTold : Cl P w K mg base "label_told" ["text"] 3 spTold) (gP : GT K mg "PLAIN_WORDS" plain6) (gL : GT K mg "LABEL_WORDS" lab2) : FnOk P w K mg base CX0 4 f fd ["text"] spWT := by
  obtain ⟨fTold, fdTold, GTold, mTold, kTold, bTold⟩ := cTold
  obtain ⟨aP, oP, eP, qP, lP, cP, dP⟩ := gP
  obtain ⟨aL, oL, eL, qL, lL, cL, dL⟩ := gL
  refine F.ok scWt (fun vs H Q E h => ?_) (fun cdv A outer s H vs Q E hr h => ?_)
  · obtain ⟨z, rfl, _⟩ := h
    rfl
  · obtain ⟨z, rfl, hz, k⟩ := h
    have hr3 : Room 3 _ := hr.mono (by decide)
    refine ⟨_, (pss_cons (ps_if (pt_cmpR op_in_seq (pv 0) (pe_glob (v := .ref aP) (by rfl) eP rfl) (by rfl)) (pss_one (ps_ret (pe_tup (pa_cons (pv 0) pa_nil)))) pss_nil)
      (pss_cons (ps_asg (pe_partition (pv 0) pe_str) (pg_tup (by rfl) (pgs_cons (pg_name (i := 1) scWt.nd rfl (Or.inl rfl)) (pgs_cons (pg_name (i := 2) scWt.nd rfl (Or.inl rfl)) (pgs_cons (pg_name (i := 3) scWt.nd rfl (Or.inl rfl)) pgs_nil)))))
      (pss_cons (ps_set (i := 4) scWt.nd rfl (Or.inl rfl) (pe_call GTold hr3 (by rfl) mTold kTold bTold .nil pass0 (pa_cons (pv 3) pa_nil)))
      (pss_cons (ps_if (PW.pt (pw_or (pt_cmpR op_notIn_seq (pv 1) (pe_glob (v := .ref aL) (by rfl) eL rfl) (by rfl)) (pw_or (pt_cmpR op_eq (pv 2) pe_str (nomark _)) (pw_or1 (pt_cmpR op_isN (pv 4) pe_non (nomark _)))))) (pss_one (ps_ret pe_non)) pss_nil)
      (pss_one (ps_ret (pe_tup (pa_cons (pv 1) (pa_cons (pv 4) pa_nil))))))))), ?_⟩
    have hzt := TL.len_tl z
    have fl : ∀ l : List Str, (l.map V.str).all flatV = true := fun l => by
      rw [List.all_eq_true]
      intro x hx
      obtain ⟨y, _, rfl⟩ := List.mem_map.mp hx
      rfl
    refine ⟨_, rfl, aP, _, rfl, .inr (qP _), rfl, fl _, _, rfl, ?_⟩
    rw [show (if false = true then !inV (V.str z) (plain6.map V.str) else inV (V.str z) (plain6.map V.str)) = decide (z ∈ plain6) from inV_str]
    by_cases h6 : z ∈ plain6
    · refine ifT (decide_eq_true h6) ?_
      refine ⟨_, rfl, (by show 1 ≤ sizeLine; decide), fun c hc => ?_⟩
      generalize hH1 : upd H c _ = H1
      obtain ⟨sc, ec⟩ := freshF hc hH1
      have e0 : wordOf z = some (.pl z) := if_pos h6
      rw [e0] at k
      exact k _ H1 sc fun g => .tup ec (by show 1 ≤ 1000; decide) (.cons (.str hz) .nil)
    · refine ifF (decide_eq_false h6) ?_
      have l0 : (colS.length == 0) = false := by decide +kernel
      have eW : wordOf z = match (pc (tl z)).2 with
          | none => none
          | some b => if mkS (pc (tl z)).1 ∈ lab2 then (labOf b).map (PW.lb (mkS (pc (tl z)).1)) else none := if_neg h6
      rcases pc_cases (tl z) with ⟨h58, epc⟩ | ⟨a, b, ez, ha, epc⟩
      · have ep : Txt.partition z colS = (z, Str.empty, Str.empty) := TL.partition_none tl_colS h58
        refine ⟨_, rfl, ⟨_, rfl⟩, _, _, rfl, rfl, l0, (by rw [sizeLine_eq]; omega), fun p hp => ?_⟩
        rw [show Txt.partition z (Str.ofString ":") = (z, Str.empty, Str.empty) from ep]
        generalize hH1 : upd H p _ = H1
        obtain ⟨sp, ep⟩ := freshF hp hH1
        refine ⟨p, _, rfl, SqT.of ep, (by rfl), _, _, rfl, _, _, rfl, _, _, rfl, rfl, ?_⟩
        refine ⟨_, rfl, Str.empty, rfl, (by decide), fun v' H2 s2 hv => ?_⟩
        rw [epc] at eW
        rw [eW] at k
        have fin : ∀ H', Same H2 H' → Q .non H' := fun H' s' => k _ H' ((sp.trans s2).trans s') fun g => .non
        refine ⟨_, rfl, aL, _, rfl, .inr (qL _), rfl, fl _, _, rfl, ?_⟩
        rw [show (if true = true then !inV (V.str z) (lab2.map V.str) else inV (V.str z) (lab2.map V.str)) = !decide (z ∈ lab2) from congrArg (!·) inV_str]
        by_cases hl : z ∈ lab2
        · refine ifF (by rw [decide_eq_true hl]; rfl) ?_
          refine ⟨_, rfl, rfl, _, rfl, ?_⟩
          refine ifT (show decide (V.str Str.empty = V.str (Str.ofString "")) = true by decide +kernel) ?_
          exact fin H2 (Same.refl _)
        · refine ifT (by rw [decide_eq_false hl]; rfl) ?_
          exact fin H2 (Same.refl _)
      · have ez' : z = mkS a ++ colS ++ mkS b := str_ext (by rw [TL.tl_append, TL.tl_append, tl_colS, tl_mkS, tl_mkS, ez, List.append_assoc]; rfl)
        have ep : Txt.partition z colS = (mkS a, colS, mkS b) := by
          rw [ez']
          exact TL.partition_app tl_colS ha
        have la : (mkS a).length ≤ 10000 ∧ (mkS b).length ≤ 10000 := by
          rw [TL.len_tl, TL.len_tl, tl_mkS, tl_mkS]
          rw [ez, List.length_append, List.length_cons] at hzt
          omega
        refine ⟨_, rfl, ⟨_, rfl⟩, _, _, rfl, rfl, l0, (by rw [sizeLine_eq]; omega), fun p hp => ?_⟩
        rw [show Txt.partition z (Str.ofString ":") = (mkS a, colS, mkS b) from ep]
        generalize hH1 : upd H p _ = H1
        obtain ⟨sp, ep⟩ := freshF hp hH1
        refine ⟨p, _, rfl, SqT.of ep, (by rfl), _, _, rfl, _, _, rfl, _, _, rfl, rfl, ?_⟩
        refine ⟨_, rfl, mkS b, rfl, la.2, fun v' H2 s2 hv => ?_⟩
        rw [tl_mkS] at hv
        rw [epc] at eW
        have eW : wordOf z = if mkS a ∈ lab2 then (labOf b).map (PW.lb (mkS a)) else none := eW
        have s12 := sp.trans s2
        refine ⟨_, rfl, aL, _, rfl, .inr (qL _), rfl, fl _, _, rfl, ?_⟩
        rw [show (if true = true then !inV (V.str (mkS a)) (lab2.map V.str) else inV (V.str (mkS a)) (lab2.map V.str)) = !decide (mkS a ∈ lab2) from congrArg (!·) inV_str]
        by_cases hl : mkS a ∈ lab2
        rotate_left
        · refine ifT (by rw [decide_eq_false hl]; rfl) ?_
          rw [if_neg hl] at eW
          rw [eW] at k
          exact k _ H2 s12 fun g => .non
        refine ifF (by rw [decide_eq_true hl]; rfl) ?_
        rw [if_pos hl] at eW
        refine ⟨_, rfl, rfl, _, rfl, ?_⟩
        refine ifF (show decide (V.str colS = V.str (Str.ofString "")) = false by decide +kernel) ?_
        refine ⟨_, rfl, ?_⟩
        cases hb : labOf b with
        | none =>
          rw [hb] at hv eW
          cases hv 0
          refine ⟨rfl, _, rfl, ifT rfl ?_⟩
          have eW : wordOf z = none := eW
          rw [eW] at k
          exact k _ H2 s12 fun g => .non
        | some L =>
          rw [hb] at hv eW
          have eW : wordOf z = some (.lb (mkS a) L) := eW
          rw [eW] at k
          obtain ⟨b2, a2, xs, rfl, eb, _⟩ := lab_at (hv 0)
          refine ⟨rfl, _, rfl, ifF rfl ?_⟩
          refine ⟨_, rfl, _, rfl, (by show 2 ≤ sizeLine; decide), fun c hc => ?_⟩
          generalize hH3 : upd H2 c _ = H3
          obtain ⟨sc, ec⟩ := freshF hc hH3
          exact k _ H3 (s12.trans sc) fun g => .tup ec (by show 2 ≤ 1000; decide) (.cons (.str la.1) (.cons ((hv g).keep (Kv.of sc)) .nil))
end
end K80

set_option Elab.async false
set_option linter.all false
set_option pp.maxSteps 3000
set_option maxRecDepth 100000
set_option maxHeartbeats 4000000
namespace K80
open PySem PySem.Spec PyProof.Rows L2
/-! enumerate(a tuple) -/
section
variable {P : Program} {w : World}
theorem draws_tup {A : Around} (hh : A.handled = none) (it l : Addr) (ne : l ≠ it) (items : Array Value) : Draws P w A it [it, l] items.size (fun i v => items[i]? = some v) (fun i h => h.IsTupleIter it l i ∧ h.IsTuple l items) := by
  refine ⟨fun i h ⟨⟨o, ho, _⟩, _⟩ => ⟨o, ho⟩, fun i h h' ⟨⟨o, ho, r⟩, ⟨o2, ho2, r2⟩⟩ k => ⟨⟨o, k it (by simp) o ho, r⟩, ⟨o2, k l (by simp) o2 ho2, r2⟩⟩, ?_, ?_⟩
  · intro i s Q E hi ⟨z1, z2⟩ q
    refine RZ.nextOf_tuple_item z1 z2 (Array.getElem?_eq_getElem hi) fun h' z3 sb => ?_
    refine q _ h' s.toks (Array.getElem?_eq_getElem hi) ⟨z3, ?_⟩ sb
    obtain ⟨o2, ho2, r2⟩ := z2
    exact ⟨o2, by rw [sb.2 l ne]; exact ho2, r2⟩
  · intro s Q E ⟨z1, z2⟩ q
    exact RZ.nextOf_tuple_end hh z1 z2 (by simp) q
theorem draws_end {A : Around} (hh : A.handled = none) (it l : Addr) (items : Array Value) (i : Nat) (hi : items.size ≤ i) : Draws P w A it [it, l] i (fun _ _ => True) (fun j h => j = i ∧ h.IsTupleIter it l i ∧ h.IsTuple l items) := by
  refine ⟨fun j h ⟨_, ⟨o, ho, _⟩, _⟩ => ⟨o, ho⟩, fun j h h' ⟨e, ⟨o, ho, r⟩, ⟨o2, ho2, r2⟩⟩ k => ⟨e, ⟨o, k it (by simp) o ho, r⟩, ⟨o2, k l (by simp) o2 ho2, r2⟩⟩, ?_, ?_⟩
  · intro j s Q E hj ⟨e, _⟩ q
    omega
  · intro s Q E ⟨_, z1, z2⟩ q
    exact RZ.nextOf_tuple_end hh z1 z2 (by simpa using hi) q
theorem enum_new {A : Around} {E : Value → Shared → Prop} {s : Shared} {l : Addr} {items : Array Value} {Q : Value → Shared → Prop} (hl : s.heap.IsTuple l items)
    (h : ∀ h' : Heap, IsEnum h' (s.heap.objs.size + 1) s.heap.objs.size 0 .none → h'.IsTupleIter s.heap.objs.size l 0 → h'.objs.size = s.heap.objs.size + 2 → (∀ b o, s.heap.get? b = some o → h'.get? b = some o) → Q (.ref (s.heap.objs.size + 1)) { s with heap := h' }) :
    wpAny (model P w) A (call (.type "enumerate") [.ref l]) Q E s := by
  have M : Meets (Builtin.«enumerate.__new__» { pos := [Value.type "enumerate", Value.ref l] }) fun x R s => ∃ items, s.heap.IsTuple l items ∧ R (.ok (.ret (.ref (s.heap.push { cls := .type "tuple_iterator", data := .fields #[.ref l, .int 0 0] }).objs.size)))
      { s with heap := (s.heap.push { cls := .type "tuple_iterator", data := .fields #[.ref l, .int 0 0] }).push { cls := .type "enumerate", data := .fields #[.none, .bool false, .ref s.heap.objs.size, rawInt 0, .none, .none] } } := by
    refine Meets.of_wp fun P w A R s hR => ?_
    obtain ⟨items, hl, hR⟩ := hR
    have s1 := PySem.sub_enumerate
    unfold Builtin.«enumerate.__new__»
    generalize hPI : pyIter = PI
    wp_walk
    refine wpAny_stack_any fun st => thn (Q := fun (_ : Bool) s' => s' = s) (wpAny_pure rfl) fun short s' hs => ?_
    subst hs
    cases short with
    | true =>
      wp_walk
      subst hPI
      refine wpAny_pyIter_tuple hl ?_
      wp_walk
      exact ⟨_, rfl, hR⟩
    | false =>
      wp_walk
      subst hPI
      refine wpAny_pyIter_tuple hl ?_
      wp_walk
      exact ⟨_, rfl, hR⟩
  refine callType_new PySem.F.called_enumerate (by decide) (PySem.F.typeCall_enumerate_1 _) (PySem.F.newCall_enumerate_1 _) (fun obj => PySem.F.args_object_init_2 _ _) PySem.F.entry_enumerate_new M ?_
  have sz1 : (s.heap.push { cls := .type "tuple_iterator", data := .fields #[.ref l, .int 0 0] }).objs.size = s.heap.objs.size + 1 := Heap.size_push ..
  refine ⟨items, hl, ?_⟩
  have g2 : ((s.heap.push { cls := .type "tuple_iterator", data := .fields #[.ref l, .int 0 0] }).push { cls := .type "enumerate", data := .fields #[.none, .bool false, .ref s.heap.objs.size, rawInt 0, .none, .none] }).get? (s.heap.objs.size + 1) = some { cls := .type "enumerate", data := .fields #[.none, .bool false, .ref s.heap.objs.size, rawInt 0, .none, .none] } := by
    rw [← sz1]
    exact Heap.get?_push_size _ rfl
  have g1 : ((s.heap.push { cls := .type "tuple_iterator", data := .fields #[.ref l, .int 0 0] }).push { cls := .type "enumerate", data := .fields #[.none, .bool false, .ref s.heap.objs.size, rawInt 0, .none, .none] }).get? s.heap.objs.size = some { cls := .type "tuple_iterator", data := .fields #[.ref l, .int 0 0] } := Heap.get?_push_of_some _ (Heap.get?_push_size _ rfl)
  rw [sz1]
  refine ⟨⟨_, g2, rfl⟩, h _ g2 ⟨_, g1, rfl, rfl⟩ ?_ fun b o e => Heap.get?_push_of_some _ (Heap.get?_push_of_some _ e)⟩
  rw [Heap.size_push, sz1]
def IteT (K : PySem.W.Frag) (a : Addr) : It :=
  { go := fun i H => ∃ xs x, SqT K H a xs ∧ xs[i]? = some x
    yld := fun i H v H' => ∃ T x, v = V.ref T ∧ H T = none ∧ H' = upd H T (HO.tup [V.int (i : Nat), x]) ∧ ∀ (xs : List V), SqT K H a xs → xs[i]? = some x
    stop := fun i H => ∃ xs, SqT K H a xs ∧ xs.length ≤ i }
theorem turn_enumT {K : PySem.W.Frag} {elts : List Expr} {kk : Nat} {tpos : Pos} (a e it : Addr) : Turn P w K (.Tuple elts kk tpos) (IteT K a) [e, it] e (fun i h => (∃ old, IsEnum h e it (i : Nat) old) ∧ h.IsTupleIter it a i ∧ e ≠ it) := by
  refine ⟨by simp, ?_, ?_, ?_, ?_, ?_⟩
  · rintro i h ⟨⟨old, h1⟩, ⟨o, h2, _, h3⟩, ne⟩ b hb
    simp only [List.mem_cons, List.not_mem_nil, or_false] at hb
    rcases hb with rfl | rfl
    · exact ⟨_, h1, fun v z => by cases z⟩
    · exact ⟨_, h2, fun v z => by rw [h3] at z; cases z⟩
  · rintro i h h' ⟨⟨old, h1⟩, ⟨o, h2, h3⟩, ne⟩ k
    exact ⟨⟨old, k e (by simp) _ h1⟩, ⟨o, k it (by simp) _ h2, h3⟩, ne⟩
  · rintro X rfl rfl rfl hc i pins s σ H E I fp ⟨⟨old, h1⟩, h2, ne⟩ ⟨xs, x, hq, hx⟩
    obtain ⟨its, rv, tp, hz⟩ := I.tuple hq
    obtain ⟨oa, hoa, hca, na, hda⟩ := tp
    have nea : a ≠ e := fun z => by
      rw [z, h1] at hoa
      cases hoa
      exact absurd (show Value.type "enumerate" = Value.type "tuple" from hca) (by decide)
    have neit : a ≠ it := fun z => by
      obtain ⟨o, h3, h4, _⟩ := h2
      rw [z, h3] at hoa
      cases hoa
      rw [h4] at hca
      exact absurd hca (by decide)
    have hh : X.A.in1.handled = none := I.ok.hd hc
    have W := WalksT.enumerateD (draws_tup (P := X.prog) (w := X.w) hh it a neit its.toArray) e ne (by simp only [List.mem_cons, List.not_mem_nil, or_false, not_or]; exact ⟨ne, fun z => nea z.symm⟩) (by simp)
    have hi : i < its.toArray.size := by
      have := (List.getElem?_eq_some_iff.mp hx).1
      rw [rv.length] at this
      simpa using this
    refine W.item i s _ _ hi ⟨⟨old, h1⟩, h2, ⟨oa, hoa, hca, na, hda⟩⟩ fun T vals h' tk hp hT htup hmid hk => ⟨_, rfl, ?_⟩
    obtain ⟨t, y, hy, rfl⟩ := hp
    have apT := W.apart i T h' hmid
    refine W.go elts kk tpos i T _ _ _ hmid fun h'' hst hk2 => ?_
    obtain ⟨⟨old2, k1⟩, k2, _⟩ := hst
    have hT0 : H T = none := HOk.fresh I.hok hT
    obtain ⟨y', hy', ry⟩ := rv.get hx
    have ey : y' = y := by
      rw [← Array.getElem?_toList] at hy
      have hy : its[i]? = some y := by simpa using hy
      rw [hy'] at hy
      exact Option.some.inj hy
    subst ey
    obtain ⟨oT, hoT, hcT, nT, hdT⟩ := htup
    have tupT : IsTup h'' T #[Value.int (i : Nat) t, y'] := ⟨oT, hk2 T _ apT hoT, hcT, nT, hdT⟩
    refine ⟨.ref T, upd H T (.tup [.int (i : Nat), x]), ?_, rfl, ⟨T, x, rfl, hT0, rfl, fun ys hys => ?_⟩, ⟨⟨old2, k1⟩, k2, ne⟩, fun b hb => ?_⟩
    · refine I.turnedNew (ch := [e, it]) (fun b o nb eb => hk2 b o nb (hk b o nb eb)) fp hT ?_
      refine ⟨by rw [sizeLine_eq]; show 2 ≤ 16777216; decide, [Value.int (i : Nat) t, y'], .cons ⟨t, rfl⟩ (.cons ry .nil), tupT⟩
    · rw [I.tuple_inj hys hq]
      exact hx
    · rw [upd_ne]
      · exact (fp b hb).1
      · intro z
        have hb2 := fun o (ho : s.heap.get? b = some o) => Heap.lt_size ho
        simp only [List.mem_cons, List.not_mem_nil, or_false] at hb
        rcases hb with rfl | rfl
        · exact absurd (hb2 _ h1) (Nat.not_lt.mpr (z ▸ hT))
        · obtain ⟨o, h3, _⟩ := h2
          exact absurd (hb2 _ h3) (Nat.not_lt.mpr (z ▸ hT))
  · rintro X rfl rfl rfl hc i pins s σ H E I fp ⟨⟨old, h1⟩, h2, ne⟩ ⟨xs, hq, hx⟩
    obtain ⟨its, rv, tp, hz⟩ := I.tuple hq
    obtain ⟨oa, hoa, hca, na, hda⟩ := tp
    have hlen := rv.length
    have nea : a ≠ e := fun z => by
      rw [z, h1] at hoa
      cases hoa
      exact absurd (show Value.type "enumerate" = Value.type "tuple" from hca) (by decide)
    have hh : X.A.in1.handled = none := I.ok.hd hc
    have D := draws_end (P := X.prog) (w := X.w) hh it a its.toArray i (by simp; omega)
    have W := WalksT.enumerateD D e ne (by simp only [List.mem_cons, List.not_mem_nil, or_false, not_or]; exact ⟨ne, fun z => nea z.symm⟩) (by simp)
    refine W.done s _ _ ⟨⟨old, h1⟩, rfl, h2, ⟨oa, hoa, hca, na, hda⟩⟩ fun h' tk hk => ⟨rfl, ?_⟩
    exact I.turnedL (ch := [e, it]) (fun b o nb eb => hk b o nb eb) fp
  · rintro A i s Q E ⟨⟨old, h1⟩, _, _⟩ q
    exact wpAny_pyIter_enum h1 q
end
def iEnumT (K : PySem.W.Frag) (ta : TA) : TI := fun σ H R => ta σ H fun vs H1 => ∃ a xs, vs = [.ref a] ∧ SqT K H1 a xs ∧ R (IteT K a) H1
theorem pi_enumT {X : Cx} {e : Expr} {ta : TA} {p pos tpos : Pos} {elts : List Expr} {kk : Nat} (hg : Gl X "enumerate") (hm : X.mg "enumerate" = none) (ha : PA X [e] ta) (na : starEach [e] X.env = [(false, eval e X.env)] := by rfl) :
    PI X (.Tuple elts kk tpos) (.Call (.Name "enumerate" p) [e] [] pos) (iEnumT X.K ta) := by
  constructor
  intro pins s σ H R I h
  refine Call_ (ld_blt I hg hm boot_enumerate (PyProof.Rows.callWith_type1 (thn (ha.run _ pins s σ H _ I h) fun us s1 hv => ?_) (by rw [na] <;> rfl) rfl))
  obtain ⟨vs, H1, I1, rv, a, xs, rfl, hq, hR⟩ := hv
  cases rv with
  | cons r0 r1 =>
    cases r1
    rename_i u
    obtain rfl : u = Value.ref a := r0
    obtain ⟨its, r, tp, hz⟩ := I1.tuple hq
    refine enum_new tp fun h' k1 k2 k3 k4 => ?_
    refine wpAny_pyIter_enum k1 ?_
    have I2 : Inv X pins σ H1 { s1 with heap := h' } := I1.kept (t' := s1.toks) k4
    refine ⟨s1.heap.objs.size + 1, [s1.heap.objs.size + 1, s1.heap.objs.size], _, IteT X.K a, H1, rfl, I2, turn_enumT a (s1.heap.objs.size + 1) s1.heap.objs.size, ⟨⟨_, k1⟩, k2, Nat.succ_ne_self _⟩, fun b hb => ?_, hR⟩
    have hb' : s1.heap.objs.size ≤ b := by
      simp only [List.mem_cons, List.not_mem_nil, or_false] at hb
      rcases hb with rfl | rfl
      · exact Nat.le_succ _
      · exact Nat.le_refl _
    exact I1.fpOk hb' (HOk.fresh I1.hok hb')
theorem walk_enumT {K : PySem.W.Frag} {a : Addr} {xs : List V} : Walk (IteT K a) xs.length (fun H => SqT K H a xs) (YPair (fun i => some (.int (i : Nat))) (fun i => xs[i]?)) := by
  refine ⟨fun i H hi hq => ⟨xs, xs[i], hq, List.getElem?_eq_getElem hi⟩, fun H hq => ⟨xs, hq, Nat.le_refl _⟩, fun i H x H' hi hq hy => ?_⟩
  obtain ⟨T, y, rfl, hT, rfl, k⟩ := hy
  exact ⟨T, _, y, rfl, hT, rfl, rfl, k xs hq⟩
end K80

set_option Elab.async false
set_option linter.all false
set_option pp.maxSteps 900
set_option maxRecDepth 100000
set_option maxHeartbeats 4000000
namespace K80
open PySem PySem.Spec PyProof.Rows L2
open TL (tl)
abbrev sNW : Stmt := top 26
abbrev sPT : Stmt := top 37
abbrev sPO : Stmt := top 39
abbrev sIP : Stmt := inClass (top 18) 0
abbrev sIT : Stmt := inClass (top 19) 0
/-! ### C.__init__(self, ..), C an own class that has ValueError's -/
structure CeC (K : PySem.W.Frag) (C : Addr) : Prop where
  rd : PySem.W.readsIn K C (.type "type") = true
  ga : PySem.W.specialIn K (.ref C) "__getattribute__" = some (some (.builtin "type.__getattribute__"))
  at_ : PySem.W.findCls K (.ref C) (.type "type") "__init__" = some (.val (.builtin "ValueError.__init__"))
section
variable {X : Cx} {o e : Expr} {es : List Expr} {to te : TE} {ta : TA} {f : Str} {p p' p1 p2 pos : Pos}
theorem pe_cinit {CE : Addr} {cn : Str} {pl : Sem Bool} (hg : Gl X cn) (hm : X.mg cn = some (.ref CE)) (T0 : CeC X.K CE) (ha : PA X (e :: es) ta) (hdb : (cn == ("__debug__" : Str)) = false := by decide)
    (hc : eval (.Call (.Attribute (.Name cn p1) "__init__" p2) (e :: es) [] pos) X.env = (do
      let ov ← eval (.Name cn p1) X.env
      standAt p2.atName
      let (f, first) ← holding [ov] (getMethod ov "__init__" pl)
      callWith pos f first (backTo pos (starEach (e :: es) X.env)) (backToKw pos (keywordEach [] X.env))) := by rfl)
    (he : starEach (e :: es) X.env = (false, eval e X.env) :: starEach es X.env := by rfl) (hpl : (backTo pos (starEach es X.env)).any (·.1) = false := by rfl) :
    PE X (.Call (.Attribute (.Name cn p1) "__init__" p2) (e :: es) [] pos) (tVeI X.K ta) := by
  refine ⟨fun pins s σ H Q I h => ?_⟩
  refine PySem.W.methodCall_KW (ld_glob I hg hm ?_ hdb) hc
  refine PySem.W.method_cls I.kIn T0.ga (PySem.W.cls_value I.kIn T0.rd T0.at_ (by decide +kernel) ?_)
  show wpAny _ _ (callWith pos (Value.builtin "ValueError.__init__") [] (backTo pos (starEach (e :: es) X.env)) []) _ _ _
  refine PyProof.Rows.callWith_method1 (thn (ha.run pos pins _ σ H _ (I.tok _) h) fun us s1 ⟨vs, H1, I1, r1, a, C, ws, ev, hl, T, ea, q⟩ => ?_) he hpl
  subst ev
  cases r1 with
  | @cons _ u0 _ ur ra rw' =>
    obtain rfl : u0 = Value.ref a := ra
    have hlen : ur.length ≤ sizeLine := by
      rw [← Paired.length rw', sizeLine_eq]
      omega
    exact oinit_ok T I1 ea hlen fun s' J => ⟨.non, H1, J, rfl, q⟩
end
/-- X.__init__(self, index), X an own error -/
def spInit (K : PySem.W.Frag) (C : Addr) : Sp := fun vs H Q _ => ∃ (a : Addr) (l : V), vs = [.ref a, l] ∧ H a = some (exo a C none) ∧
  ∀ (d : Addr) (H' : Hp), H d = none → d ≠ a → H' a = some (exo a C (some d)) → H' d = some (exd d [("index", l)]) → (∀ b, b ≠ a → b ≠ d → H' b = H b) → Q .non H'
/-- an own error's class with an __init__ of its own -/
structure Ei (K : PySem.W.Frag) (mg : Str → Option Value) (x : Str) (CE C fI : Addr) : Prop where
  mC : mg x = some (.ref C)
  mCE : mg "ClockError" = some (.ref CE)
  ce : CeC K CE
  ox : OexC K C
  ni : PySem.W.findIn K (.ref C) "index" = some none
  iE : PySem.W.findIn K (.ref C) "__init__" = some (some (.ref fI))
  tI : PySem.W.typeIn K (.ref fI) = some (.type "function")
def seqOf : Dt → Option (List Dt)
  | .lst l => some l
  | .tup l => some l
  | _ => none
def firstBad (l : List Dt) : Option Nat := l.findIdx? fun d => !wordB d
def errN (d : Dt) : Option Int := match seqOf d with
  | none => some (-1)
  | some l => if 40 < l.length then some (-1 : Int) else (firstBad l).map fun n : Nat => (n : Int)
theorem first_bad {l : List Dt} {i : Nat} {d : Dt} (h : l[i]? = some d) (hb : wordB d = false) (hj : ∀ j, j < i → ∃ d0, l[j]? = some d0 ∧ wordB d0 = true) : firstBad l = some i := by
  obtain ⟨hi, e⟩ := List.getElem?_eq_some_iff.mp h
  unfold firstBad
  rw [List.findIdx?_eq_some_iff_getElem]
  refine ⟨hi, by rw [e, hb]; rfl, fun j hj' => ?_⟩
  obtain ⟨d0, h0, h1⟩ := hj j hj'
  obtain ⟨hi0, e0⟩ := List.getElem?_eq_some_iff.mp h0
  rw [e0, h1]
  exact Bool.false_ne_true
theorem no_bad {l : List Dt} (h : ∀ j, j < l.length → ∃ d0, l[j]? = some d0 ∧ wordB d0 = true) : firstBad l = none := by
  unfold firstBad
  rw [List.findIdx?_eq_none_iff]
  intro x hx
  obtain ⟨j, hj, e⟩ := List.getElem_of_mem hx
  obtain ⟨d0, h0, h1⟩ := h j hj
  rw [List.getElem?_eq_getElem hj, e] at h0
  obtain rfl := Option.some.inj h0
  rw [h1]
  rfl
theorem raised {H1 H' : Hp} {a dd : Addr} {o o' : HO} (ha : H1 a = none) (hd : H1 dd = none) (hk : ∀ b, b ≠ a → b ≠ dd → H' b = upd H1 a o b) : Same H1 (upd (del H' a) dd o') := fun b u e => by
  have hba : b ≠ a := ne_of_none e ha
  have hbd : b ≠ dd := ne_of_none e hd
  rw [upd_ne hbd, del_ne hba, hk b hba hbd, upd_ne hba]
  exact e
theorem pi_or {X : Cx} {tg e : Expr} {w1 w2 : TI} (h1 : PI X tg e w1) (h2 : PI X tg e w2) : PI X tg e (fun σ H R => w1 σ H R ∨ w2 σ H R) :=
  ⟨fun pins s σ H R I h => h.elim (fun h => h1.run pins s σ H R I h) (fun h => h2.run pins s σ H R I h)⟩
def spNW (C : Addr) : Sp := fun vs H Q Ex => ∃ (g : Addr) (v : V) (d : Dt), vs = [v] ∧ DV g H v d ∧ (∀ l, seqOf d = some l → ∀ x ∈ l, wordF x = true) ∧ (errN d = none → ∀ H', Same H H' → Q .non H') ∧
  (∀ i, errN d = some i → ∀ (dd : Addr) (H' : Hp), Same H H' → H' dd = some (.xd [("index", .int i)]) → Ex (.ref C) (some dd) H')
section
variable {P : Program} {w : World} {K : PySem.W.Frag} {mg : Str → Option Value} {base : Heap}
theorem scIP : FnScope ["self", "index"] ["self", "index"] (defScope sIP) := ⟨rfl, rfl, rfl, by decide +kernel, rfl, by decide +kernel, by decide +kernel⟩
theorem ok_ip {f CE C : Addr} {fd : FuncData} {x : Str} (F : Fun K "__init__" "BadPasses.__init__" sIP f fd) (T : Ei K mg x CE C f) : FnOk P w K mg base CX0 1 f fd ["self", "index"] (spInit K C) := by
  refine F.ok scIP (fun vs H Q E h => ?_) (fun cdv A outer s H vs Q E hr h => ?_)
  · obtain ⟨a, l, rfl, _⟩ := h
    rfl
  · obtain ⟨a, l, rfl, ha, k⟩ := h
    refine ⟨_, pss_cons (ps_expr (pe_cinit (by rfl) T.mCE T.ce (pa_cons (pv 0) (pa_cons pe_str pa_nil)))) (pss_one (ps_ost (pv 0) (pv 1))), ?_⟩
    refine ⟨_, rfl, a, C, [_], rfl, (by decide), T.ox, ha, ?_⟩
    refine ⟨_, rfl, _, rfl, a, C, rfl, T.ox, T.ni, .inl ⟨ha, fun dx ndx dne => ?_⟩⟩
    refine k dx _ ndx dne upd_same (by rw [upd_ne dne, upd_same]) fun b ha' hd' => ?_
    rw [upd_ne ha', upd_ne hd']
theorem scIT : FnScope ["self", "index"] ["self", "index"] (defScope sIT) := ⟨rfl, rfl, rfl, by decide +kernel, rfl, by decide +kernel, by decide +kernel⟩
theorem ok_it {f CE C : Addr} {fd : FuncData} {x : Str} (F : Fun K "__init__" "BadPassesText.__init__" sIT f fd) (T : Ei K mg x CE C f) : FnOk P w K mg base CX0 1 f fd ["self", "index"] (spInit K C) := by
  refine F.ok scIT (fun vs H Q E h => ?_) (fun cdv A outer s H vs Q E hr h => ?_)
  · obtain ⟨a, l, rfl, _⟩ := h
    rfl
  · obtain ⟨a, l, rfl, ha, k⟩ := h
    refine ⟨_, pss_cons (ps_expr (pe_cinit (by rfl) T.mCE T.ce (pa_cons (pv 0) (pa_cons pe_str pa_nil)))) (pss_one (ps_ost (pv 0) (pv 1))), ?_⟩
    refine ⟨_, rfl, a, C, [_], rfl, (by decide), T.ox, ha, ?_⟩
    refine ⟨_, rfl, _, rfl, a, C, rfl, T.ox, T.ni, .inl ⟨ha, fun dx ndx dne => ?_⟩⟩
    refine k dx _ ndx dne upd_same (by rw [upd_ne dne, upd_same]) fun b ha' hd' => ?_
    rw [upd_ne ha', upd_ne hd']
theorem scNw : FnScope ["words", "at", "word"] ["words"] (defScope sNW) := ⟨rfl, rfl, rfl, by decide +kernel, rfl, by decide +kernel, by decide +kernel⟩
theorem ok_nw {f C CE fI : Addr} {fd fdI : FuncData} (F : Fun K "need_words" "need_words" sNW f fd) (T : Bn mg) (R : Ei K mg "BadPasses" CE C fI) (GI : FnOk P w K mg base CX0 1 fI fdI ["self", "index"] (spInit K C)) (bI : L2.Binds K fdI ["self", "index"] [])
    (cLs : Cl P w K mg base "is_list" ["value"] 1 (spAsk isLst)) (cWd : Cl P w K mg base "is_word" ["value"] 6 (spIf wordF wordB)) (g4 : ∃ t, mg "MOST_PASSES" = some (.int 40 t)) : FnOk P w K mg base (L2.CX P w) 7 f fd ["words"] (spNW C) := by
  obtain ⟨fLs, fdLs, GLs, mLs, kLs, bLs⟩ := cLs
  obtain ⟨fWd, fdWd, GWd, mWd, kWd, bWd⟩ := cWd
  obtain ⟨t4, e4⟩ := g4
  refine F.okX scNw (fun vs H Q E h => ?_) (fun cdv A outer s H vs Q Ex hr h => ?_)
  · obtain ⟨g, v, d, rfl, _⟩ := h
    rfl
  · obtain ⟨g, v, d, rfl, hd, hw0, k1, k2⟩ := h
    have hr1 : Room 1 _ := hr.mono (by decide)
    have hr2 : Room 2 _ := hr.mono (by decide)
    refine ⟨_, (pss_cons (ps_if (PW.pt (pw_or (pt_not (pt_val (pe_call GLs hr1 (by rfl) mLs kLs bLs .nil pass0 (pa_cons (pv 0) pa_nil)))) (pw_or1 (pt_cmpR op_gt (pe_callB call_len_seq (by rfl) T.len PySem.boot_len (pa_cons (pv 0) pa_nil)) (pe_glob (v := .int 40) (by rfl) e4 ⟨_, rfl⟩) (nomark _))))) (pss_one (ps_raise rfl (takes_of rfl rfl rfl rfl) (pmk_oex R.ox R.iE R.tI GI hr2 bI .nil pass0 (by rfl) R.mC (pa_cons (pe_un un_neg pe_int) pa_nil)))) pss_nil)
      (pss_one (ps_for (passes_of rfl) rfl (pi_or (pi_enum (by rfl) T.enu (pa_cons (pv 0) pa_nil)) (pi_enumT (by rfl) T.enu (pa_cons (pv 0) pa_nil))) (pg_tup (by rfl) (pgs_cons (pg_name (i := 1) scNw.nd rfl (Or.inl rfl)) (pgs_cons (pg_name (i := 2) scNw.nd rfl (Or.inl rfl)) pgs_nil)))
          (pss_one (ps_if (pt_not (pt_val (pe_call GWd hr (by rfl) mWd kWd bWd .nil pass0 (pa_cons (pv 2) pa_nil)))) (pss_one (ps_raise rfl (takes_of rfl rfl rfl rfl) (pmk_oex R.ox R.iE R.tI GI hr2 bI .nil pass0 (by rfl) R.mC (pa_cons (pv 1) pa_nil)))) pss_nil))))), ?_⟩
    refine ⟨_, rfl, g, v, d, rfl, hd, fun H1 s1 => ⟨_, rfl, ?_⟩⟩
    have bad : isLst d = false → errN d = some (-1 : Int) := fun e => by
      cases d with
      | lst l => cases e
      | tup l => cases e
      | _ => rfl
    have hd1 := hd.keep (Kv.of s1)
    have fin : isLst d = false → ∀ X : Prop, X → X := fun _ _ x => x
    cases hd1 with
    | non =>
      refine ifT rfl ?_
      refine ⟨_, rfl, (by show 1 ≤ 1000; decide), fun a ha => ?_⟩
      refine ⟨a, _, rfl, upd_same, fun dd H' hdd hda h1 h2 hk2 => ⟨rfl, dd, _, h1, h2, ?_, ?_⟩⟩
      · rw [upd_ne hda] at hdd
        exact hdd
      · rw [upd_ne hda] at hdd
        exact k2 _ (bad rfl) dd _ (s1.trans (raised ha hdd hk2)) upd_same
    | bl b =>
      refine ifT rfl ?_
      refine ⟨_, rfl, (by show 1 ≤ 1000; decide), fun a ha => ?_⟩
      refine ⟨a, _, rfl, upd_same, fun dd H' hdd hda h1 h2 hk2 => ⟨rfl, dd, _, h1, h2, ?_, ?_⟩⟩
      · rw [upd_ne hda] at hdd
        exact hdd
      · rw [upd_ne hda] at hdd
        exact k2 _ (bad rfl) dd _ (s1.trans (raised ha hdd hk2)) upd_same
    | int i =>
      refine ifT rfl ?_
      refine ⟨_, rfl, (by show 1 ≤ 1000; decide), fun a ha => ?_⟩
      refine ⟨a, _, rfl, upd_same, fun dd H' hdd hda h1 h2 hk2 => ⟨rfl, dd, _, h1, h2, ?_, ?_⟩⟩
      · rw [upd_ne hda] at hdd
        exact hdd
      · rw [upd_ne hda] at hdd
        exact k2 _ (bad rfl) dd _ (s1.trans (raised ha hdd hk2)) upd_same
    | str h =>
      refine ifT rfl ?_
      refine ⟨_, rfl, (by show 1 ≤ 1000; decide), fun a ha => ?_⟩
      refine ⟨a, _, rfl, upd_same, fun dd H' hdd hda h1 h2 hk2 => ⟨rfl, dd, _, h1, h2, ?_, ?_⟩⟩
      · rw [upd_ne hda] at hdd
        exact hdd
      · rw [upd_ne hda] at hdd
        exact k2 _ (bad rfl) dd _ (s1.trans (raised ha hdd hk2)) upd_same
    | dic e =>
      refine ifT rfl ?_
      refine ⟨_, rfl, (by show 1 ≤ 1000; decide), fun a ha => ?_⟩
      refine ⟨a, _, rfl, upd_same, fun dd H' hdd hda h1 h2 hk2 => ⟨rfl, dd, _, h1, h2, ?_, ?_⟩⟩
      · rw [upd_ne hda] at hdd
        exact hdd
      · rw [upd_ne hda] at hdd
        exact k2 _ (bad rfl) dd _ (s1.trans (raised ha hdd hk2)) upd_same
    | @lst a xs ds e n hl r =>
      refine ifF rfl ?_
      have hw : ∀ x ∈ ds, wordF x = true := hw0 ds rfl
      refine ⟨_, rfl, a, _, rfl, .inl (SqL.of e), _, _, rfl, rfl, _, rfl, ?_⟩
      by_cases h40 : 40 < ds.length
      · refine ifT (decide_eq_true (by rw [r.len]; omega)) ?_
        have e1 : errN (.lst ds) = some (-1 : Int) := by
          show (if 40 < ds.length then some (-1 : Int) else _) = _
          rw [if_pos h40]
        refine ⟨_, rfl, (by show 1 ≤ 1000; decide), fun a ha => ?_⟩
        refine ⟨a, _, rfl, upd_same, fun dd H' hdd hda h1 h2 hk2 => ⟨rfl, dd, _, h1, h2, ?_, ?_⟩⟩
        · rw [upd_ne hda] at hdd
          exact hdd
        · rw [upd_ne hda] at hdd
          exact k2 _ e1 dd _ (s1.trans (raised ha hdd hk2)) upd_same
      refine ifF (decide_eq_false (by rw [r.len]; omega)) ?_
      have ea : H1 a = some (.lst xs) := e
      refine .inl ⟨_, rfl, a, xs, rfl, SqL.of ea, for_it (walk_enum (K := K) (a := a) (xs := xs)) (fun i σ H' => ∃ av wv : Option V, σ = [some (.ref a), av, wv] ∧ Same H1 H' ∧ ∀ j, j < i → ∃ d0, ds[j]? = some d0 ∧ wordB d0 = true) ⟨none, none, rfl, Same.refl H1, fun j hj => absurd hj (Nat.not_lt_zero _)⟩ (fun i σ H' _ ⟨_, _, _, s2, _⟩ => SqL.of (s2 _ _ ea)) ?_ ?_⟩
      · rintro i v2 σ H2 H2' hi ⟨av, wv, rfl, s2, hal⟩ ⟨T0, x, y, rfl, hT, rfl, hx, hy⟩
        obtain rfl := Option.some.inj hx
        have sT := same_new (o := .tup [V.int (i : Nat), y]) hT
        generalize hH3 : upd H2 T0 _ = H3
        have eT : H3 T0 = some (.tup [V.int (i : Nat), y]) := by rw [← hH3, upd_same]
        have s23 : Same H2 H3 := by rw [← hH3]; exact sT
        obtain ⟨d0, hd0, hdv⟩ := r.at_ hy
        have hw0 : wordF d0 = true := hw d0 (List.mem_of_getElem? hd0)
        refine ⟨T0, _, rfl, SqT.of eT, (by rfl), _, _, rfl, _, _, rfl, rfl, ?_⟩
        have s13 := s2.trans s23
        refine ⟨_, rfl, g, y, d0, rfl, hdv.keep (Kv.of s13), hw0, fun H4 s4 => ⟨_, rfl, ?_⟩⟩
        have s14 := s13.trans s4
        cases hb : wordB d0 with
        | true =>
          refine ifF rfl ?_
          refine ⟨_, _, rfl, s14, fun j hj => ?_⟩
          by_cases e : j = i
          · subst e
            exact ⟨d0, hd0, hb⟩
          · exact hal j (by omega)
        | false =>
          refine ifT rfl ?_
          have e1 : errN (.lst ds) = some (i : Int) := by
            unfold errN
            show (if 40 < ds.length then some (-1 : Int) else (firstBad ds).map fun n : Nat => (n : Int)) = _
            rw [if_neg h40, first_bad hd0 hb fun j hj => hal j hj]
            rfl
          refine ⟨_, rfl, (by show 1 ≤ 1000; decide), fun a ha => ?_⟩
          refine ⟨a, _, rfl, upd_same, fun dd H' hdd hda h1 h2 hk2 => ⟨rfl, dd, _, h1, h2, ?_, ?_⟩⟩
          · rw [upd_ne hda] at hdd
            exact hdd
          · rw [upd_ne hda] at hdd
            exact k2 _ e1 dd _ ((s1.trans s14).trans (raised ha hdd hk2)) upd_same
      · rintro σ H2 ⟨av, wv, rfl, s2, hal⟩
        refine k1 ?_ H2 (s1.trans s2)
        show (if 40 < ds.length then some (-1 : Int) else (firstBad ds).map fun n : Nat => (n : Int)) = none
        rw [if_neg h40, no_bad fun j hj => ?_]
        · rfl
        · exact hal j (by rw [r.len]; exact hj)
    | @tup a xs ds e hl r =>
      refine ifF rfl ?_
      have hw : ∀ x ∈ ds, wordF x = true := hw0 ds rfl
      refine ⟨_, rfl, a, _, rfl, .inr (SqT.of e), _, _, rfl, rfl, _, rfl, ?_⟩
      by_cases h40 : 40 < ds.length
      · refine ifT (decide_eq_true (by rw [r.len]; omega)) ?_
        have e1 : errN (.tup ds) = some (-1 : Int) := by
          show (if 40 < ds.length then some (-1 : Int) else _) = _
          rw [if_pos h40]
        refine ⟨_, rfl, (by show 1 ≤ 1000; decide), fun a ha => ?_⟩
        refine ⟨a, _, rfl, upd_same, fun dd H' hdd hda h1 h2 hk2 => ⟨rfl, dd, _, h1, h2, ?_, ?_⟩⟩
        · rw [upd_ne hda] at hdd
          exact hdd
        · rw [upd_ne hda] at hdd
          exact k2 _ e1 dd _ (s1.trans (raised ha hdd hk2)) upd_same
      refine ifF (decide_eq_false (by rw [r.len]; omega)) ?_
      have ea : H1 a = some (.tup xs) := e
      refine .inr ⟨_, rfl, a, xs, rfl, SqT.of ea, for_it (walk_enumT (K := K) (a := a) (xs := xs)) (fun i σ H' => ∃ av wv : Option V, σ = [some (.ref a), av, wv] ∧ Same H1 H' ∧ ∀ j, j < i → ∃ d0, ds[j]? = some d0 ∧ wordB d0 = true) ⟨none, none, rfl, Same.refl H1, fun j hj => absurd hj (Nat.not_lt_zero _)⟩ (fun i σ H' _ ⟨_, _, _, s2, _⟩ => SqT.of (s2 _ _ ea)) ?_ ?_⟩
      · rintro i v2 σ H2 H2' hi ⟨av, wv, rfl, s2, hal⟩ ⟨T0, x, y, rfl, hT, rfl, hx, hy⟩
        obtain rfl := Option.some.inj hx
        have sT := same_new (o := .tup [V.int (i : Nat), y]) hT
        generalize hH3 : upd H2 T0 _ = H3
        have eT : H3 T0 = some (.tup [V.int (i : Nat), y]) := by rw [← hH3, upd_same]
        have s23 : Same H2 H3 := by rw [← hH3]; exact sT
        obtain ⟨d0, hd0, hdv⟩ := r.at_ hy
        have hw0 : wordF d0 = true := hw d0 (List.mem_of_getElem? hd0)
        refine ⟨T0, _, rfl, SqT.of eT, (by rfl), _, _, rfl, _, _, rfl, rfl, ?_⟩
        have s13 := s2.trans s23
        refine ⟨_, rfl, g, y, d0, rfl, hdv.keep (Kv.of s13), hw0, fun H4 s4 => ⟨_, rfl, ?_⟩⟩
        have s14 := s13.trans s4
        cases hb : wordB d0 with
        | true =>
          refine ifF rfl ?_
          refine ⟨_, _, rfl, s14, fun j hj => ?_⟩
          by_cases e : j = i
          · subst e
            exact ⟨d0, hd0, hb⟩
          · exact hal j (by omega)
        | false =>
          refine ifT rfl ?_
          have e1 : errN (.tup ds) = some (i : Int) := by
            unfold errN
            show (if 40 < ds.length then some (-1 : Int) else (firstBad ds).map fun n : Nat => (n : Int)) = _
            rw [if_neg h40, first_bad hd0 hb fun j hj => hal j hj]
            rfl
          refine ⟨_, rfl, (by show 1 ≤ 1000; decide), fun a ha => ?_⟩
          refine ⟨a, _, rfl, upd_same, fun dd H' hdd hda h1 h2 hk2 => ⟨rfl, dd, _, h1, h2, ?_, ?_⟩⟩
          · rw [upd_ne hda] at hdd
            exact hdd
          · rw [upd_ne hda] at hdd
            exact k2 _ e1 dd _ ((s1.trans s14).trans (raised ha hdd hk2)) upd_same
      · rintro σ H2 ⟨av, wv, rfl, s2, hal⟩
        refine k1 ?_ H2 (s1.trans s2)
        show (if 40 < ds.length then some (-1 : Int) else (firstBad ds).map fun n : Nat => (n : Int)) = none
        rw [if_neg h40, no_bad fun j hj => ?_]
        · rfl
        · exact hal j (by rw [r.len]; exact hj)
end
end K80

set_option Elab.async false
set_option linter.all false
set_option pp.maxSteps 900
set_option maxRecDepth 100000
set_option maxHeartbeats 4000000
namespace K80
open PySem PySem.Spec PyProof.Rows L2
open TL (tl)
/-! ### a comprehension over data that makes texts -/
theorem lc_dvT {α : Type} {J : It} {G : Hp → Prop} {xs : List V} {l : List α} {Df : α → Dt} {Tf : α → Str} {te : TE} {i : Nat} {vs : List Nat} {σ : L2.St} {H1 : Hp} {g : Addr} {Q : Addr → Hp → Prop} (w : Walk J xs.length G (YAt xs)) (hG : ∀ H', Same H1 H' → G H') (r : DVs g H1 xs (l.map Df)) (hl : l.length ≤ 1000)
    (hw : ∀ x, wipe (List.set (wipe σ vs) i (some x)) vs = wipe σ vs)
    (step : ∀ (a : α) (x : V) (H2 : Hp) (R : VK), a ∈ l → DV g H2 x (Df a) → (∀ H3, Same H2 H3 → R (.str (Tf a)) H3) → te (List.set (wipe σ vs) i (some x)) H2 R)
    (fin : ∀ (D : Addr) (H2 : Hp), Same H1 H2 → H2 D = some (.lst ((l.map Tf).map V.str)) → Q D H2) :
    ∀ (D : Addr), H1 D = none → ∃ W : Nat → Nat → Hp → Prop, (∃ m, W 0 m (upd H1 D (HO.lst []))) ∧ ∀ (i' m : Nat) (H : Hp), W i' m H →
      J.stop i' H ∧ Q D H ∨ J.go i' H ∧ ∃ Nx : Hp → Prop, (∀ H', Nx H' → ∃ m', m' < m ∧ W (i' + 1) m' H') ∧ ∀ (x : V) (H' : Hp), J.yld i' H x H' →
        gName i x (wipe σ vs) H' fun σ2 H2 => wipe σ2 vs = wipe σ vs ∧ tYes σ2 H2 fun b H3 => if b = true then te σ2 H3 fun y H4 => ∃ acc, H4 D = some (HO.lst acc) ∧ acc.length < sizeLine ∧ Nx (upd H4 D (HO.lst (acc ++ [y]))) else Nx H3 := by
  intro D hD
  have hxl : xs.length = l.length := by rw [r.len, List.length_map]
  refine lc_it w (fun i H' => H' D = some (.lst (((l.take i).map Tf).map V.str)) ∧ Same H1 H') ⟨upd_same, same_new hD⟩ (fun _ _ _ h => hG _ h.2) ?_ ?_
  · rintro j x H2 H2' hj ⟨h4, s1⟩ ⟨rfl, hx⟩
    obtain ⟨d, hd, hx2⟩ := r.at_ hx
    rw [List.getElem?_map] at hd
    obtain ⟨a, ha, rfl⟩ := Option.map_eq_some_iff.mp hd
    refine ⟨hw x, ?_⟩
    refine step a x _ _ (List.mem_of_getElem? ha) (hx2.keep (Kv.of s1)) fun H3 s3 => ?_
    refine ⟨_, s3 _ _ h4, ?_, ?_, ?_⟩
    · rw [List.length_map, List.length_map, List.length_take, sizeLine_eq]
      omega
    · rw [upd_same, List.take_succ, ha, List.map_append, List.map_append]
      rfl
    · intro b o eb
      rw [upd_ne (ne_of_none eb hD)]
      exact s3 _ _ (s1 _ _ eb)
  · rintro H2 ⟨h4, s1⟩
    rw [hxl, List.take_length] at h4
    exact fin D H2 s1 h4
def spS1 : Str := " "
theorem tl_sp : tl spS1 = [32] := by decide +kernel
theorem sp_len : spS1.length = 1 := by decide +kernel
def spPT (C : Addr) : Sp := fun vs H Q Ex => ∃ (g : Addr) (v : V) (d : Dt), vs = [v] ∧ DV g H v d ∧ (∀ l, seqOf d = some l → ∀ x ∈ l, wordF x = true) ∧
  ((∃ ps : List PW, seqOf d = some (ps.map wordD) ∧ (∀ p ∈ ps, okW p) ∧ ps.length ≤ 40 ∧ ∀ H', Same H H' → Q (.str (Txt.join spS1 (ps.map wordT))) H') ∨
   (∃ i, errN d = some i ∧ ∀ (dd : Addr) (H' : Hp), Same H H' → H' dd = some (.xd [("index", .int i)]) → Ex (.ref C) (some dd) H'))
theorem err_no {d : Dt} {ps : List PW} (h : seqOf d = some (ps.map wordD)) (hw : ∀ p ∈ ps, okW p) (h40 : ps.length ≤ 40) : errN d = none := by
  unfold errN
  rw [h]
  show (if 40 < (ps.map wordD).length then some (-1 : Int) else (firstBad (ps.map wordD)).map fun n : Nat => (n : Int)) = none
  rw [if_neg (by rw [List.length_map]; omega), no_bad fun j hj => ?_]
  · rfl
  · rw [List.length_map] at hj
    exact ⟨wordD ps[j], by rw [List.getElem?_map, List.getElem?_eq_getElem hj]; rfl, (wordB_of (hw _ (List.getElem_mem hj))).1⟩
/-! ### what texts of passes tell -/
theorem spS_parts (s : Nat) : ∀ l : List Nat, (spS s l).length ≤ l.length + 1 ∧ ∀ p ∈ spS s l, p.length ≤ l.length
  | [] => ⟨Nat.le_refl _, fun p hp => by rw [List.mem_singleton.mp hp]; exact Nat.le_refl _⟩
  | c :: r => by
    obtain ⟨h1, h2⟩ := spS_parts s r
    by_cases hc : c = s
    · rw [hc, spS_hit]
      refine ⟨?_, fun p hp => ?_⟩
      · rw [List.length_cons, List.length_cons]
        omega
      · rcases List.mem_cons.mp hp with rfl | hp
        · exact Nat.zero_le _
        · have := h2 p hp
          rw [List.length_cons]
          omega
    · rw [spS_miss hc]
      obtain ⟨h, t, e⟩ := spS_ne s r
      rw [e] at h1 h2 ⊢
      refine ⟨?_, fun p hp => ?_⟩
      · show (t.length + 1) ≤ r.length + 1 + 1
        rw [List.length_cons] at h1
        omega
      · rcases List.mem_cons.mp (show p ∈ (c :: h) :: t from hp) with rfl | hp
        · have := h2 h List.mem_cons_self
          rw [List.length_cons, List.length_cons]
          omega
        · have := h2 p (List.mem_cons_of_mem _ hp)
          rw [List.length_cons]
          omega
def piecesOf (l : List Nat) : List (List Nat) := if l = [] then [] else spS 32 l
def poW (z : Str) : List (Option PW) := (piecesOf (tl z)).map fun p => wordOf (mkS p)
def poE (z : Str) : Option Int := match (poW z).findIdx? (fun o => o.isNone) with
  | some i => some (i : Nat)
  | none => if 40 < (poW z).length then some 40 else none
def spPO (C : Addr) : Sp := fun vs H Q Ex => ∃ (g : Addr) (v : V) (d : Dt), vs = [v] ∧ DV g H v d ∧
  ((isStr d = false ∧ ∀ (dd : Addr) (H' : Hp), Same H H' → H' dd = some (.xd [("index", .non)]) → Ex (.ref C) (some dd) H') ∨
   (∃ z, d = .str z ∧ (∀ i, poE z = some i → ∀ (dd : Addr) (H' : Hp), Same H H' → H' dd = some (.xd [("index", .int i)]) → Ex (.ref C) (some dd) H') ∧
     (poE z = none → ∀ (ps : List PW) (D : Addr) (ys : List V) (H' : Hp), poW z = ps.map some → Same H H' → H D = none → H' D = some (.lst ys) → (∀ g, DVs g H' ys (ps.map wordD)) → Q (.ref D) H')))
def wl (p : PW) : List Dt := match p with
  | .pl s => [.str s]
  | .lb w L => [.str w, labD L]
theorem wl_eq : (fun p => Dt.tup (wl p)) = wordD := by
  funext p
  cases p <;> rfl
theorem all_some {α : Type} : ∀ {os : List (Option α)}, os.any (fun o => o.isNone) = false → ∃ l : List α, os = l.map some
  | [], _ => ⟨[], rfl⟩
  | none :: r, h => by cases h
  | some a :: r, h => by
    obtain ⟨l, e⟩ := all_some (os := r) h
    exact ⟨a :: l, by rw [e]; rfl⟩
theorem first_none {α : Type} : ∀ {os : List (Option α)}, os.any (fun o => o.isNone) = true → ∃ j, os.findIdx? (fun o => o.isNone) = some j ∧ os[j]? = some none ∧ ∀ m o, m < j → os[m]? = some o → ∃ a, o = some a := by
  intro os h
  cases e : os.findIdx? (fun o => o.isNone) with
  | none =>
    rw [List.findIdx?_eq_none_iff] at e
    obtain ⟨o, ho, hn⟩ := List.any_eq_true.mp h
    have := e o ho
    rw [hn] at this
    cases this
  | some j =>
    obtain ⟨hj, h1, h2⟩ := List.findIdx?_eq_some_iff_getElem.mp e
    refine ⟨j, rfl, ?_, fun m o hm ho => ?_⟩
    · rw [List.getElem?_eq_getElem hj]
      cases eo : os[j] with
      | none => rfl
      | some a => rw [eo] at h1; cases h1
    · obtain ⟨hm', eo⟩ := List.getElem?_eq_some_iff.mp ho
      have := h2 m hm
      rw [eo] at this
      cases o with
      | none => exact absurd rfl this
      | some a => exact ⟨a, rfl⟩
theorem no_none {α : Type} {os : List (Option α)} (h : os.any (fun o => o.isNone) = false) : os.findIdx? (fun o => o.isNone) = none := by
  rw [List.findIdx?_eq_none_iff]
  intro o ho
  have := List.any_eq_false.mp h o ho
  cases e : o.isNone with
  | false => rfl
  | true => exact absurd e this
theorem toPys_at {l : List Dt} {j : Nat} {d : Dt} (h : l[j]? = some d) : (toPys l)[j]? = some (toPy d) := by
  rw [toPys_map, List.getElem?_map, h]
  rfl
theorem toPys_inv {l : List Dt} {j : Nat} {z : PyData} (h : (toPys l)[j]? = some z) : ∃ d, l[j]? = some d ∧ z = toPy d := by
  rw [toPys_map, List.getElem?_map] at h
  obtain ⟨d, hd, e⟩ := Option.map_eq_some_iff.mp h
  exact ⟨d, hd, e.symm⟩
section
variable {P : Program} {w : World} {K : PySem.W.Frag} {mg : Str → Option Value} {base : Heap}
theorem scPt : FnScope ["words", "word"] ["words"] (defScope sPT) := ⟨rfl, rfl, rfl, by decide +kernel, rfl, by decide +kernel, by decide +kernel⟩
theorem ok_pt {f C : Addr} {fd : FuncData} (F : Fun K "passes_text" "passes_text" sPT f fd) (cNW : ClX (L2.CX P w) P w K mg base "need_words" ["words"] 7 (spNW C)) (cTW : Cl P w K mg base "text_of_word" ["word"] 2 spTW) : FnOk P w K mg base (L2.CX P w) 8 f fd ["words"] (spPT C) := by
  obtain ⟨fNW, fdNW, GNW, mNW, kNW, bNW⟩ := cNW
  obtain ⟨fTW, fdTW, GTW, mTW, kTW, bTW⟩ := cTW
  refine F.okX scPt (fun vs H Q E h => ?_) (fun cdv A outer s H vs Q Ex hr h => ?_)
  · obtain ⟨g, v, d, rfl, _⟩ := h
    rfl
  · obtain ⟨g, v, d, rfl, hd, hw, h⟩ := h
    have hr2 : Room 2 _ := hr.mono (by decide)
    refine ⟨_, (pss_cons (ps_expr (pe_call GNW hr (by rfl) mNW kNW bNW .nil (passes_call (takes_of rfl rfl rfl rfl) (fun _ _ _ _ h => h)) (pa_cons (pv 0) pa_nil)))
      (pss_one (ps_ret (pe_join pe_str (pe_lc (own := [("word", 1)]) (g := gName 1) (tt := tYes) (by rfl) scPt.nd (pi_or (pi_list (pv 0)) (pi_tup (pv 0))) (blkOk_by (own := [("word", 1)]) (N := ["words", "word"]) (sc := defScope sPT) (by decide +kernel)) (fun _ _ _ _ _ => (pg_name (i := 1) scPt.nd rfl (Or.inl rfl))) (fun _ _ _ _ _ => pts_nil) (fun _ _ _ _ _ => (pe_call GTW hr2 (by rfl) mTW kTW bTW .nil pass0 (pa_cons (pv 1) pa_nil)))))))), ?_⟩
    rcases h with ⟨ps, hs, hps, h40, k⟩ | ⟨i, hi, k⟩
    rotate_left
    · exact ⟨_, rfl, g, v, d, rfl, hd, hw, (fun e => by rw [hi] at e; cases e), fun j hj dd H' s' he => by
        rw [hi] at hj
        obtain rfl := Option.some.inj hj
        exact k dd H' s' he⟩
    refine ⟨_, rfl, g, v, d, rfl, hd, hw, (fun _ H1 s1 => ?_), fun j hj => by rw [err_no hs hps h40] at hj; cases hj⟩
    have hd1 := hd.keep (Kv.of s1)
    have fin : ∀ (D : Addr) (H2 : Hp), Same H1 H2 → H2 D = some (.lst ((ps.map wordT).map V.str)) →
        (∃ a p, ∃ ys : List Str, V.str (Str.ofString " ") = .str a ∧ [V.ref D] = [.ref p] ∧ (SqL K H2 p (ys.map V.str) ∨ SqT K H2 p (ys.map V.str)) ∧ (ys.map (·.length)).sum + ys.length * a.length ≤ 16777216 ∧ Q (.str (Txt.join a ys)) H2) := by
      intro D H2 s2 eD
      have hsum : ((ps.map wordT).map (·.length)).sum ≤ (ps.map wordT).length * 76 := sum_lens fun x hx => by
        obtain ⟨p, hp, rfl⟩ := List.mem_map.mp hx
        exact wordT_len (hps p hp)
      rw [List.length_map] at hsum
      refine ⟨_, D, ps.map wordT, rfl, rfl, .inl (SqL.of eD), ?_, k H2 (s1.trans s2)⟩
      rw [List.length_map, show (Str.ofString " ").length = 1 from sp_len]
      omega
    cases hd1 with
    | @lst a xs ds e n hl r =>
      obtain rfl : ds = ps.map wordD := Option.some.inj hs
      refine ⟨⟨_, rfl⟩, .inl ⟨_, rfl, a, rfl, ⟨_, SqL.of e⟩, lc_dvT (l := ps) (Df := wordD) (Tf := wordT) (i := 1) (vs := [1]) (walk_list (K := K) (a := a) (xs := xs)) (fun H' s' => SqL.of (s' _ _ e)) r (by omega) (fun x => rfl) ?_ fin⟩⟩
      intro p x H2 R hp hx hR
      exact ⟨_, rfl, g, x, p, rfl, hx, hps p hp, hR⟩
    | @tup a xs ds e hl r =>
      obtain rfl : ds = ps.map wordD := Option.some.inj hs
      refine ⟨⟨_, rfl⟩, .inr ⟨_, rfl, a, rfl, ⟨_, SqT.of e⟩, lc_dvT (l := ps) (Df := wordD) (Tf := wordT) (i := 1) (vs := [1]) (walk_tup (K := K) (a := a) (xs := xs)) (fun H' s' => SqT.of (s' _ _ e)) r (by omega) (fun x => rfl) ?_ fin⟩⟩
      intro p x H2 R hp hx hR
      exact ⟨_, rfl, g, x, p, rfl, hx, hps p hp, hR⟩
    | _ => cases hs
theorem scPo : FnScope ["text", "pieces", "words", "piece"] ["text"] (defScope sPO) := ⟨rfl, rfl, rfl, by decide +kernel, rfl, by decide +kernel, by decide +kernel⟩
theorem ok_po {f C CE fI : Addr} {fd fdI : FuncData} (F : Fun K "passes_of" "passes_of" sPO f fd) (T : Bn mg) (R : Ei K mg "BadPassesText" CE C fI) (GI : FnOk P w K mg base CX0 1 fI fdI ["self", "index"] (spInit K C)) (bI : L2.Binds K fdI ["self", "index"] [])
    (cWT : Cl P w K mg base "word_told" ["text"] 4 spWT) (g4 : ∃ t, mg "MOST_PASSES" = some (.int 40 t)) : FnOk P w K mg base (L2.CX P w) 5 f fd ["text"] (spPO C) := by
  obtain ⟨fWT, fdWT, GWT, mWT, kWT, bWT⟩ := cWT
  obtain ⟨t4, e4⟩ := g4
  refine F.okX scPo (fun vs H Q E h => ?_) (fun cdv A outer s H vs Q Ex hr h => ?_)
  · obtain ⟨g, v, d, rfl, _⟩ := h
    rfl
  · obtain ⟨g, v, d, rfl, hd, h⟩ := h
    have hr2 : Room 2 _ := hr.mono (by decide)
    obtain ⟨t, ht, q1, q2, q3, q4⟩ := hd.ty (K := K)
    refine ⟨_, (pss_cons (ps_if (pt_not (pt_val (pe_callB call_isi (by rfl) T.isi (by decide +kernel) (pa_cons (pv 0) (pa_cons (pe_bltn (v := .ty "str") (by rfl) T.str boot_str rfl) pa_nil))))) (pss_one (ps_raise rfl (takes_of rfl rfl rfl rfl) (pmk_oex R.ox R.iE R.tI GI hr2 bI .nil pass0 (by rfl) R.mC (pa_cons pe_non pa_nil)))) pss_nil)
      (pss_mid (ps_set (i := 1) scPo.nd rfl (Or.inl rfl) (pe_ifExp (pt_truth (pv 0) (fun _ => rfl)) (pe_split (pv 0) pe_str) (pe_lst pa_nil)))
      (pss_cons (ps_setLc (i := 2) (own := [("piece", 3)]) (g := gName 3) (tt := tYes) (by rfl) scPo.nd rfl rfl (sw_true rfl rfl rfl (by decide +kernel)) (pi_list (pv 1)) (blkOk_by (own := [("piece", 3)]) (N := ["text", "pieces", "words", "piece"]) (sc := defScope sPO) (by decide +kernel)) (fun _ _ _ _ _ => (pg_name (i := 3) scPo.nd rfl (Or.inl rfl))) (fun _ _ _ _ _ => pts_nil) (fun _ _ _ _ _ => (pe_call GWT hr (by rfl) mWT kWT bWT .nil pass0 (pa_cons (pv 3) pa_nil))))
      (pss_cons (ps_if (pt_cmpR (op_inD (u65 hr)) pe_non (pv 2) (by rfl)) (pss_one (ps_raise rfl (takes_of rfl rfl rfl rfl) (pmk_oex R.ox R.iE R.tI GI hr2 bI .nil pass0 (by rfl) R.mC (pa_cons (pe_bm PySem.F.plainAttrs_list PySem.F.slot_list_index PySem.F.type_list_index (mt_indexD (u65 hr)) (pv 2) (pa_cons pe_non pa_nil)) pa_nil)))) pss_nil)
      (pss_cons (ps_if (pt_cmpR op_gt (pe_callB call_len_seq (by rfl) T.len PySem.boot_len (pa_cons (pv 2) pa_nil)) (pe_glob (v := .int 40) (by rfl) e4 ⟨_, rfl⟩) (nomark _)) (pss_one (ps_raise rfl (takes_of rfl rfl rfl rfl) (pmk_oex R.ox R.iE R.tI GI hr2 bI .nil pass0 (by rfl) R.mC (pa_cons (pe_glob (v := .int 40) (by rfl) e4 ⟨_, rfl⟩) pa_nil)))) pss_nil)
      (pss_one (ps_ret (pv 2)))))))), ?_⟩
    refine ⟨_, rfl, _, _, _, _, _, rfl, .ty "str", ht, q1, _, rfl, ?_⟩
    rcases h with ⟨hs, k⟩ | ⟨z, rfl, k1, k2⟩
    · refine ifT (by rw [hs]; rfl) ?_
      refine ⟨(by show 1 ≤ 1000; decide), fun a ha => ?_⟩
      refine ⟨a, _, rfl, upd_same, fun dd H' hdd hda h1 h2 hk2 => ⟨rfl, dd, _, h1, h2, ?_, ?_⟩⟩
      · rw [upd_ne hda] at hdd
        exact hdd
      · rw [upd_ne hda] at hdd
        exact k dd _ (raised ha hdd hk2) upd_same
    obtain ⟨rfl, hz⟩ := hd.str_inv
    have hzt := TL.len_tl z
    refine ifF rfl ?_
    refine ⟨fun σ1 H1 => ∃ (p : Addr) (ms : List Str), σ1 = [some (.str z), some (.ref p), none, none] ∧ Same H H1 ∧ H1 p = some (.lst (ms.map V.str)) ∧ ms.map tl = piecesOf (tl z), ?_, ?_⟩
    · refine ⟨_, rfl, _, ⟨by rw [sizeLine_eq]; omega, rfl⟩, ?_⟩
      by_cases h0 : tl z = []
      · refine ifF (by rw [hzt, h0]; rfl) ?_
        refine ⟨Nat.zero_le _, fun p hp => ?_⟩
        generalize hH1 : upd H p _ = H1
        obtain ⟨sp, ep⟩ := freshF hp hH1
        exact ⟨p, [], rfl, sp, ep, by unfold piecesOf; rw [if_pos h0]; rfl⟩
      · have hne : z.length ≠ 0 := fun e => h0 (List.length_eq_zero_iff.mp (by omega))
        refine ifT (by simpa using hne) ?_
        refine ⟨_, rfl, ⟨_, rfl⟩, z, spS1, rfl, rfl, (by decide +kernel), (by rw [sizeLine_eq]; omega), fun p hp => ?_⟩
        generalize hH1 : upd H p _ = H1
        obtain ⟨sp, ep⟩ := freshF hp hH1
        exact ⟨p, Txt.split z spS1, rfl, sp, ep, by unfold piecesOf; rw [if_neg h0]; exact split_spS tl_sp (by decide)⟩
    · rintro σ1 H1 ⟨p, ms, rfl, s1, e1, hms⟩
      have hpo : poW z = ms.map fun y => wordOf y := by
        unfold poW
        rw [← hms, List.map_map]
        refine List.map_congr_left fun y _ => ?_
        show wordOf (mkS (tl y)) = wordOf y
        rw [mkS_tl]
      have hpl : ms.length ≤ 10001 ∧ ∀ y ∈ ms, y.length ≤ 10000 := by
        obtain ⟨h1, h2⟩ := spS_parts 32 (tl z)
        have hl : ms.length = (piecesOf (tl z)).length := by rw [← hms, List.length_map]
        by_cases h0 : tl z = []
        · have e : piecesOf (tl z) = [] := if_pos h0
          rw [e] at hl hms
          refine ⟨by rw [hl]; exact Nat.zero_le _, fun y hy => ?_⟩
          have : ms = [] := List.map_eq_nil_iff.mp hms
          rw [this] at hy
          cases hy
        · have e : piecesOf (tl z) = spS 32 (tl z) := if_neg h0
          rw [e] at hl hms
          refine ⟨by omega, fun y hy => ?_⟩
          have := h2 (tl y) (by rw [← hms]; exact List.mem_map.mpr ⟨y, hy, rfl⟩)
          rw [TL.len_tl]
          omega
      refine ⟨_, rfl, p, rfl, ⟨_, SqL.of e1⟩, ?_⟩
      refine lc_strsD (K := K) (F := fun y => oD wordD (wordOf y)) (i := 3) (vs := [3]) (fun y _ => ?_) (by omega) e1 (fun x => rfl) ?_ ?_
      · cases e : wordOf y with
        | none => rfl
        | some q => exact word_purO e
      · intro y H4 R hy s4 hR
        exact ⟨_, rfl, y, rfl, hpl.2 y hy, fun v H5 s5 hv => hR v H5 s5 hv⟩
      intro D H2 ys s2 hD eD hv
      have eF : ms.map (fun y => oD wordD (wordOf y)) = (poW z).map (oD wordD) := by
        rw [hpo, List.map_map]
        rfl
      rw [eF] at hv
      have hps : purs ((poW z).map (oD wordD)) = true := by
        rw [hpo, List.map_map]
        refine purs_map fun y _ => ?_
        show pur (oD wordD (wordOf y)) = true
        cases e : wordOf y with
        | none => rfl
        | some q => exact word_purO e
      have hdp : deps ((poW z).map (oD wordD)) ≤ 63 := Nat.le_trans (deps_o (k := 4) word_dep _) (by decide)
      have hq := dvs_dp (K := K) hps (hv 0)
      have s12 := s1.trans s2
      refine ⟨_, rfl, .none, toPys ((poW z).map (oD wordD)), .non, .lst (SqL.of eD) hq, rfl, shaped_lst hps hdp, _, rfl, ?_⟩
      have hn := none_any (f := wl) (poW z)
      rw [show (fun a => Dt.tup (wl a)) = wordD from wl_eq] at hn
      rw [hn]
      cases hany : (poW z).any (fun o => o.isNone) with
      | true =>
        refine ifT rfl ?_
        obtain ⟨j, j1, j2, j3⟩ := first_none hany
        have eE : poE z = some (j : Int) := by
          unfold poE
          rw [j1]
        refine ⟨_, rfl, .inl ⟨rfl, _, SqL.of eD⟩, D, .non, .none, toPys ((poW z).map (oD wordD)), j, .none, rfl, rfl, .lst (SqL.of eD) hq, .non, shaped_lst hps hdp, rfl, toPys_at (d := .non) (by rw [List.getElem?_map, j2]; rfl), by simp [PyData.eqv], ?_, ?_⟩
        · intro m z' hm hz'
          obtain ⟨d, hd', rfl⟩ := toPys_inv hz'
          rw [List.getElem?_map] at hd'
          obtain ⟨o, ho, rfl⟩ := Option.map_eq_some_iff.mp hd'
          obtain ⟨a, rfl⟩ := j3 m o hm ho
          show PyData.eqv (toPy (wordD a)) .none = false
          rw [← wl_eq]
          show PyData.eqv (.tuple (toPys (wl a))) .none = false
          simp [PyData.eqv]
        refine ⟨(by show 1 ≤ 1000; decide), fun a ha => ?_⟩
        refine ⟨a, _, rfl, upd_same, fun dd H' hdd hda h1 h2 hk2 => ⟨rfl, dd, _, h1, h2, ?_, ?_⟩⟩
        · rw [upd_ne hda] at hdd
          exact hdd
        · rw [upd_ne hda] at hdd
          exact k1 _ eE dd _ (s12.trans (raised ha hdd hk2)) upd_same
      | false =>
        refine ifF rfl ?_
        obtain ⟨ps, hpse⟩ := all_some hany
        have hyl : ys.length = ps.length := by
          rw [(hv 0).len, List.length_map, hpse, List.length_map]
        refine ⟨_, rfl, D, _, rfl, .inl (SqL.of eD), _, _, rfl, rfl, _, rfl, ?_⟩
        by_cases h40 : 40 < ps.length
        · have eE : poE z = some 40 := by
            unfold poE
            rw [no_none hany]
            show (if 40 < (poW z).length then some (40 : Int) else none) = some 40
            rw [if_pos (by rw [hpse, List.length_map]; exact h40)]
          refine ifT (decide_eq_true (by rw [hyl]; omega)) ?_
          refine ⟨(by show 1 ≤ 1000; decide), fun a ha => ?_⟩
          refine ⟨a, _, rfl, upd_same, fun dd H' hdd hda h1 h2 hk2 => ⟨rfl, dd, _, h1, h2, ?_, ?_⟩⟩
          · rw [upd_ne hda] at hdd
            exact hdd
          · rw [upd_ne hda] at hdd
            exact k1 _ eE dd _ (s12.trans (raised ha hdd hk2)) upd_same
        · have eE : poE z = none := by
            unfold poE
            rw [no_none hany]
            show (if 40 < (poW z).length then some (40 : Int) else none) = none
            rw [if_neg (by rw [hpse, List.length_map]; exact h40)]
          refine ifF (decide_eq_false (by rw [hyl]; omega)) ?_
          refine ⟨_, rfl, k2 eE ps D ys H2 hpse s12 (s1.free hD) eD fun g => ?_⟩
          have := hv g
          rw [hpse, List.map_map] at this
          exact this
end
end K80

set_option Elab.async false
set_option linter.all false
set_option pp.maxSteps 900
set_option maxRecDepth 100000
set_option maxHeartbeats 4000000
namespace K80
open PySem PySem.Spec PyProof.Rows L2
open TL (tl)
abbrev sLP : Stmt := top 47
abbrev sLL : Stmt := top 48
theorem Kp.free {d g c p : Addr} {H H1 : Hp} {n : Nat} (S : StA H1 d g c n) (k : Kp d g H H1) (hp : H1 p = none) : H p = none := by
  obtain ⟨h1, h2, _⟩ := S.free hp
  cases e : H p with
  | none => rfl
  | some o =>
    rw [k p o e h1 h2] at hp
    cases hp
def spLP : Sp := fun vs H Q _ => ∃ (d g c : Addr) (n : Nat), vs = [.ref d] ∧ StA H d g c n ∧ n ≤ 950000000 ∧
  ∀ (p : Addr) (f k : Nat) (H' : Hp), okP f k → StA H' d g c (n + 3) → Kp d g H H' → H p = none → H' p = some (.tup [.int (f : Nat), .int (k : Nat)]) → Q (.ref p) H'
def spLL : Sp := fun vs H Q _ => ∃ (d g c : Addr) (n : Nat), vs = [.ref d] ∧ StA H d g c n ∧ n ≤ 900000000 ∧
  ∀ (v : V) (L : Lab) (H' : Hp), okL L → StA H' d g c (n + 40) → Kp d g H H' → (∀ g', DV g' H' v (labD L)) → Q v H'
section
variable {P : Program} {w : World} {K : PySem.W.Frag} {mg : Str → Option Value} {base : Heap}
theorem scLp : FnScope ["state"] ["state"] (defScope sLP) := ⟨rfl, rfl, rfl, by decide +kernel, rfl, by decide +kernel, by decide +kernel⟩
theorem ok_lp {f : Addr} {fd : FuncData} (F : Fun K "_law_pair" "_law_pair" sLP f fd) (cD : Cl P w K mg base "_law_draw" ["state", "room"] 2 spDrw) (cP : Cl P w K mg base "_law_pick" ["state", "some"] 3 spPck) : FnOk P w K mg base CX0 4 f fd ["state"] spLP := by
  obtain ⟨fD, fdD, GD, mD, kD, bD⟩ := cD
  obtain ⟨fP, fdP, GP, mP, kP, bP⟩ := cP
  refine F.ok scLp (fun vs H Q E h => ?_) (fun cdv A outer s H vs Q E hr h => ?_)
  · obtain ⟨d, g, c, n, rfl, _⟩ := h
    rfl
  · obtain ⟨d, g, c, n, rfl, S, hn, k⟩ := h
    have hr2 : Room 2 _ := hr.mono (by decide)
    refine ⟨_, (pss_one (ps_ret (pe_tup (pa_cons (pe_call GP hr (by rfl) mP kP bP .nil pass0 (pa_cons (pv 0) (pa_cons (pe_lst (pa_cons pe_int (pa_cons pe_int (pa_cons pe_int (pa_cons pe_int pa_nil))))) pa_nil))) (pa_cons (pe_call GP hr (by rfl) mP kP bP .nil pass0 (pa_cons (pv 0) (pa_cons (pe_lst (pa_cons pe_int (pa_cons pe_int (pa_cons pe_int (pa_cons (pe_call GD hr2 (by rfl) mD kD bD .nil pass0 (pa_cons (pv 0) (pa_cons pe_int pa_nil))) (pa_cons pe_int pa_nil)))))) pa_nil))) pa_nil))))), ?_⟩
    refine ⟨_, rfl, (by show 4 ≤ sizeLine; decide), fun q1 hq1 => ?_⟩
    generalize hH1 : upd H q1 _ = H1
    obtain ⟨sq1, eq1⟩ := freshF hq1 hH1
    have S1 := S.keep sq1
    refine ⟨d, g, c, q1, _, _, rfl, S1, by omega, eq1, (S.free hq1).2.1, by simp, (by show 4 ≤ 1000000; decide), fun v H2 hv S2 kp2 => ?_⟩
    obtain ⟨f, rfl, hf⟩ : ∃ f : Nat, v = .int (f : Nat) ∧ f ≤ 5 := by
      simp only [List.mem_cons, List.not_mem_nil, or_false] at hv
      rcases hv with rfl | rfl | rfl | rfl
      · exact ⟨0, rfl, by decide⟩
      · exact ⟨5, rfl, by decide⟩
      · exact ⟨1, rfl, by decide⟩
      · exact ⟨2, rfl, by decide⟩
    refine ⟨_, rfl, _, rfl, d, g, c, n + 1, 1000, rfl, S2, by omega, by decide, by decide, fun u H3 u0 u1 S3 kp3 => ?_⟩
    refine ⟨(by show 5 ≤ sizeLine; decide), fun q2 hq2 => ?_⟩
    generalize hH4 : upd H3 q2 _ = H4
    obtain ⟨sq2, eq2⟩ := freshF hq2 hH4
    have S4 := S3.keep sq2
    refine ⟨d, g, c, q2, _, _, rfl, S4, by omega, eq2, (S3.free hq2).2.1, by simp, (by show 5 ≤ 1000000; decide), fun v H5 hv S5 kp5 => ?_⟩
    obtain ⟨j, rfl, hj⟩ : ∃ j : Nat, v = .int (j : Nat) ∧ j ≤ 999 := by
      simp only [List.mem_cons, List.not_mem_nil, or_false] at hv
      rcases hv with rfl | rfl | rfl | rfl | rfl
      · exact ⟨0, rfl, by decide⟩
      · exact ⟨999, rfl, by decide⟩
      · exact ⟨1, rfl, by decide⟩
      · exact ⟨u.toNat, by rw [Int.toNat_of_nonneg u0], by omega⟩
      · exact ⟨10, rfl, by decide⟩
    refine ⟨(by show 2 ≤ sizeLine; decide), fun p hp => ?_⟩
    generalize hH6 : upd H5 p _ = H6
    obtain ⟨sp, ep⟩ := freshF hp hH6
    have kpa : Kp d g H H5 := (Kp.of sq1).trans (kp2.trans (kp3.trans ((Kp.of sq2).trans kp5)))
    exact k p f j H6 ⟨hf, hj⟩ (S5.keep sp) (kpa.trans (Kp.of sp)) (kpa.free S5 hp) ep
theorem scLl : FnScope ["state", "way", "lap"] ["state"] (defScope sLL) := ⟨rfl, rfl, rfl, by decide +kernel, rfl, by decide +kernel, by decide +kernel⟩
theorem ok_ll {f : Addr} {fd : FuncData} (F : Fun K "_law_label" "_law_label" sLL f fd) (T : Bn mg) (cP : Cl P w K mg base "_law_pick" ["state", "some"] 3 spPck) (cLP : Cl P w K mg base "_law_pair" ["state"] 4 spLP) : FnOk P w K mg base CX0 5 f fd ["state"] spLL := by
  obtain ⟨fP, fdP, GP, mP, kP, bP⟩ := cP
  obtain ⟨fLP, fdLP, GLP, mLP, kLP, bLP⟩ := cLP
  refine F.ok scLl (fun vs H Q E h => ?_) (fun cdv A outer s H vs Q E hr h => ?_)
  · obtain ⟨d, g, c, n, rfl, _⟩ := h
    rfl
  · obtain ⟨d, g, c, n, rfl, S, hn, k⟩ := h
    have hr3 : Room 3 _ := hr.mono (by decide)
    refine ⟨_, (pss_cons (ps_setLc (i := 1) (own := [("lap", 2)]) (g := gName 2) (tt := tYes) (by rfl) scLl.nd rfl rfl (sw_true rfl rfl rfl (by decide +kernel)) (pi_range1 (by rfl) T.rng (pa_cons (pe_call GP hr3 (by rfl) mP kP bP .nil pass0 (pa_cons (pv 0) (pa_cons (pe_lst (pa_cons pe_int (pa_cons pe_int (pa_cons pe_int (pa_cons pe_int (pa_cons pe_int pa_nil)))))) pa_nil))) pa_nil)) (blkOk_by (own := [("lap", 2)]) (N := ["state", "way", "lap"]) (sc := defScope sLL) (by decide +kernel)) (fun _ _ _ _ _ => (pg_name (i := 2) scLl.nd rfl (Or.inl rfl))) (fun _ _ _ _ _ => pts_nil) (fun _ _ _ _ _ => (pe_op (show OpR _ _ (rCatA K) from op_catA) (pe_tup (pa_cons (pe_call GP hr3 (by rfl) mP kP bP .nil pass0 (pa_cons (pv 0) (pa_cons (pe_lst (pa_cons pe_str (pa_cons pe_str (pa_cons pe_str pa_nil)))) pa_nil))) pa_nil)) (pe_call GLP hr (by rfl) mLP kLP bLP .nil pass0 (pa_cons (pv 0) pa_nil)))))
      (pss_one (ps_ret (pe_op op_catA (pe_call GLP hr (by rfl) mLP kLP bLP .nil pass0 (pa_cons (pv 0) pa_nil)) (pe_tup (pa_cons (pe_callTy call_tuple_of (by rfl) T.tpl (by decide +kernel) (pa_cons (pv 1) pa_nil)) pa_nil)))))), ?_⟩
    refine ⟨_, rfl, (by show 5 ≤ sizeLine; decide), fun q1 hq1 => ?_⟩
    generalize hH1 : upd H q1 _ = H1
    obtain ⟨sq1, eq1⟩ := freshF hq1 hH1
    have S1 := S.keep sq1
    refine ⟨d, g, c, q1, _, _, rfl, S1, by omega, eq1, (S.free hq1).2.1, by simp, (by show 5 ≤ 1000000; decide), fun v H2 hv S2 kp2 => ?_⟩
    obtain ⟨m, rfl, hm⟩ : ∃ m : Nat, v = .int (m : Nat) ∧ m ≤ 8 := by
      simp only [List.mem_cons, List.not_mem_nil, or_false] at hv
      rcases hv with rfl | rfl | rfl | rfl | rfl
      · exact ⟨0, rfl, by decide⟩
      · exact ⟨1, rfl, by decide⟩
      · exact ⟨2, rfl, by decide⟩
      · exact ⟨8, rfl, by decide⟩
      · exact ⟨3, rfl, by decide⟩
    have kpa : Kp d g H H2 := (Kp.of sq1).trans kp2
    refine ⟨_, rfl, by omega, by omega, ?_⟩
    intro D hD
    have fD := S2.free hD
    refine lc_it (walk_range (lo := 0) (n := ((m : Nat) : Int).toNat)) (fun i H' => ∃ (ws : List V) (ms : List (Nat × Nat × Nat)), H' D = some (.lst ws) ∧ (∀ g', DVs g' H' ws (ms.map markD)) ∧ ms.length = i ∧ (∀ x ∈ ms, sgn x.1 = true ∧ okP x.2.1 x.2.2) ∧ StA H' d g c (n + 1 + 4 * i) ∧ Kp d g H2 H')
      ⟨[], [], upd_same, fun g' => .nil, rfl, (fun x hx => by cases hx), S2.keep (same_new hD), Kp.of (same_new hD)⟩ (fun _ _ _ _ => trivial) ?_ ?_
    · rintro i x H3z H3 hi ⟨ws, ms, w1, w2, w3, w4, S3, kp3⟩ ⟨rfl, rfl⟩
      have hi8 : i < 8 := by
        rw [Int.toNat_natCast] at hi
        omega
      refine ⟨rfl, ?_⟩
      refine ⟨_, rfl, (by show 3 ≤ sizeLine; decide), fun q2 hq2 => ?_⟩
      generalize hH4 : upd H3 q2 _ = H4
      obtain ⟨sq2, eq2⟩ := freshF hq2 hH4
      have S4 := S3.keep sq2
      refine ⟨d, g, c, q2, _, _, rfl, S4, by omega, eq2, (S3.free hq2).2.1, by simp, (by show 3 ≤ 1000000; decide), fun v H5 hv S5 kp5 => ?_⟩
      obtain ⟨sg, rfl, hsg⟩ : ∃ sg : Nat, v = .str (mw sg) ∧ sgn sg = true := by
        simp only [List.mem_cons, List.not_mem_nil, or_false] at hv
        rcases hv with rfl | rfl | rfl
        · exact ⟨64, by rw [show mw 64 = ("at" : Str) by decide +kernel], by decide⟩
        · exact ⟨60, by rw [show mw 60 = ("first" : Str) by decide +kernel], by decide⟩
        · exact ⟨62, by rw [show mw 62 = ("later" : Str) by decide +kernel], by decide⟩
      refine ⟨(by show 1 ≤ sizeLine; decide), fun t ht => ?_⟩
      generalize hH6 : upd H5 t _ = H6
      obtain ⟨st, et⟩ := freshF ht hH6
      have S6 := S5.keep st
      refine ⟨_, rfl, d, g, c, n + 1 + 4 * i + 1, rfl, S6, by omega, fun p f j H7 hok S7 kp7 hp ep => ?_⟩
      have et7 := kp7 _ _ et (S5.free ht).1 (S5.free ht).2.1
      refine ⟨t, p, _, _, rfl, rfl, SqT.of et7, SqT.of ep, (by show 1 + 2 ≤ sizeLine; decide), (fun z => by cases z), (fun _ z => by cases z), fun _ _ u hu => ?_⟩
      generalize hH8 : upd H7 u _ = H8
      obtain ⟨su, eu⟩ := freshF hu hH8
      have kt1 : Kt H3 H8 := fun b xs e => su _ _ ((Kt.kp S6 kp7) _ _ (st _ _ ((Kt.kp S4 kp5) _ _ (sq2 _ _ e))))
      have kp38 : Kp d g H3 H8 := (Kp.of sq2).trans (kp5.trans ((Kp.of st).trans (kp7.trans (Kp.of su))))
      have w18 := kp38 _ _ w1 fD.1 fD.2.1
      have kt2 : Kt H8 (upd H8 D (HO.lst (ws ++ [V.ref u]))) := Kt.put w18
      have hlw : ws.length = i := by rw [(w2 0).len, List.length_map, w3]
      refine ⟨_, w18, (by rw [hlw, sizeLine_eq]; omega), _, ms ++ [(sg, f, j)], upd_same, fun g' => ?_, ?_, ?_, ?_, ?_⟩
      · rw [List.map_append]
        refine DVs.app (DVs.keepP (g := 0) kt2 (purs_map fun a _ => mark_pur a) (DVs.keepP (g := 0) kt1 (purs_map fun a _ => mark_pur a) (w2 0))) ?_
        refine .cons (DV.keepP (g := 0) kt2 (mark_pur (sg, f, j)) (.tup eu (by show 3 ≤ 1000; decide) (.cons (.str ?_) (.cons (.int _) (.cons (.int _) .nil))))) .nil
        have h := mw_mem hsg
        have q : ∀ w ∈ marks3, w.length ≤ 5 := by decide +kernel
        have := q _ h
        show (mw sg).length ≤ 10000
        omega
      · rw [List.length_append, w3]
        rfl
      · intro x hx
        rcases List.mem_append.mp hx with hx | hx
        · exact w4 x hx
        · rw [List.mem_singleton.mp hx]
          exact ⟨hsg, hok⟩
      · exact ((S7.keep su).upF fD.1 fD.2.1 fD.2.2).mono (by omega)
      · exact (kp3.trans kp38).upF hD
    · rintro H3 ⟨ws, ms, w1, w2, w3, w4, S3, kp3⟩
      rw [Int.toNat_natCast] at w3 S3
      refine ⟨_, rfl, d, g, c, n + 1 + 4 * m, rfl, S3, by omega, fun p f j H4 hok S4 kp4 hp ep => ?_⟩
      have w14 := kp4 _ _ w1 fD.1 fD.2.1
      refine ⟨_, rfl, D, ws, rfl, .inl ⟨SqL.of w14, fun l hl => ?_⟩⟩
      generalize hH5 : upd H4 l _ = H5
      obtain ⟨sl, el⟩ := freshF hl hH5
      refine ⟨(by show 1 ≤ sizeLine; decide), fun t ht => ?_⟩
      generalize hH6 : upd H5 t _ = H6
      obtain ⟨st, et⟩ := freshF ht hH6
      refine ⟨p, t, _, _, rfl, rfl, SqT.of (st _ _ (sl _ _ ep)), SqT.of et, (by show 2 + 1 ≤ sizeLine; decide), (fun z => by cases z), (fun _ z => by cases z), fun _ _ u hu => ?_⟩
      generalize hH7 : upd H6 u _ = H7
      obtain ⟨su, eu⟩ := freshF hu hH7
      have s47 := (sl.trans st).trans su
      have kt1 : Kt H3 H7 := fun b xs e => s47 _ _ ((Kt.kp S3 kp4) _ _ e)
      have w2' := DVs.keepP (g := 0) (g' := 0) kt1 (purs_map fun a _ => mark_pur a) (w2 0)
      refine k _ ((f, j), ms) H7 ⟨hok, by rw [w3]; exact hm, w4⟩ ((S4.keep s47).mono (by omega)) (kpa.trans (kp3.trans (kp4.trans (Kp.of s47)))) fun g' => ?_
      refine .tup eu (by show 3 ≤ 1000; decide) (.cons (.int _) (.cons (.int _) (.cons (.tup (su _ _ (st _ _ el)) (by show (ms.map markD).length ≤ 1000; rw [List.length_map]; omega) ?_) .nil)))
      exact DVs.keepP (g := 0) (fun b xs e => e) (purs_map fun a _ => mark_pur a) w2'
end
end K80

set_option Elab.async false
set_option linter.all false
set_option pp.maxSteps 900
set_option maxRecDepth 100000
set_option maxHeartbeats 4000000
namespace K80
open PySem PySem.Spec PyProof.Rows L2
open TL (tl)
/-! ### for sign in '@<>': text = text.replace(sign, ' ' + sign) -/
section
variable {X : Cx} {pins : List (Addr × Obj)} {σ : L2.St} {H : Hp} {s : Shared}
/-- a local name is stored: what stands there is just this value -/
theorem store_tok {M : Model} {A : Around} {E : Value → Shared → Prop} {i : Nat} {x : Str} {v : V} {u : Value} {Q : Unit → Shared → Prop} (I : Inv X pins σ H s) (hN : X.N.Nodup) (hi : X.N[i]? = some x) (hk : X.env.kindOf x = some .local) (r : RelV v u)
    (h : ∀ s', Inv X pins (σ.set i (some v)) H s' → s.toks ≤ s'.toks → (∃ m, s'.heap.Ns X.env.locals m ∧ m x = some u) → Q () s') : wpAny M A (storeName X.env x u) Q E s := by
  obtain ⟨m, hn, hl⟩ := id I.loc
  have hcls : (X.env.scope.kind == .class || (X.env.scope.kind == .module && X.env.locals != X.env.globals)) = false := by rw [I.ok.kind]; rfl
  have hiσ : i < σ.length := by rw [I.len]; exact (List.getElem?_eq_some_iff.mp hi).1
  have cne := I.cne
  have tracked : ∀ {a : Addr} {h' : Heap}, (∃ o, s.heap.get? a = some o ∧ H a = none) → Heap.SameBut a s.heap h' → HOk X.prog X.w H h' := fun {a h'} ha hs b ob e => by
    obtain ⟨_, _, hfree⟩ := ha
    refine (I.hok b ob e).stay (fun c w' hc q => (hs.2 c ?_).trans q) (fun _ q => q) fun _ _ q => q
    rintro rfl
    rcases hc with rfl | hc
    · rw [hfree] at e; cases e
    · rw [hfree] at hc; cases hc
  refine wpAny_storeName_local hk hn (fun h' hn' hs => ?_) hcls
  obtain ⟨oL, _, _, hoL, _⟩ := id hn
  refine h _ ⟨I.ok, I.os, I.bare, ⟨fun b o e n hb hx => ?_, fun b o e n hb hx => ?_, I.base.free, fun b o e hx => ?_, I.base.tups, I.base.frzs, I.base.tbls⟩, ⟨_, hn', fun j y v' e1 e2 e3 => ?_⟩, fun y c e => ?_, I.free, I.freeC, fun p hp => ?_, tracked ⟨oL, hoL, I.free⟩ hs, by simpa using I.len⟩ (Nat.le_succ _) ⟨_, hn', by simp⟩
  · exact (hs.2 b (Nat.ne_of_lt (Nat.lt_of_lt_of_le (Heap.lt_size e) I.ok.above))).trans (I.base.keep b o e n hb hx)
  · obtain ⟨sl, e1⟩ := I.base.slot b o e n hb hx
    exact ⟨sl, (hs.2 b (Nat.ne_of_lt (Nat.lt_of_lt_of_le (Heap.lt_size e) I.ok.above))).trans e1⟩
  · obtain ⟨o', e1⟩ := I.base.there b o e hx
    exact ⟨o', (hs.2 b (Nat.ne_of_lt (Nat.lt_of_lt_of_le (Heap.lt_size e) I.ok.above))).trans e1⟩
  · by_cases hj : j = i
    · subst hj
      rw [hi] at e1; cases e1
      rw [List.getElem?_set_self hiσ] at e2
      cases e2
      exact ⟨u, r, .inl ⟨hk, by simp⟩⟩
    · rw [List.getElem?_set_ne (Ne.symm hj)] at e2
      obtain ⟨u', r', q⟩ := hl j y v' e1 e2 e3
      refine ⟨u', r', ?_⟩
      rcases q with ⟨k, e⟩ | ⟨k, c, e, z⟩
      · refine .inl ⟨k, ?_⟩
        have : y ≠ x := fun e => hj (nodup_ix hN e1 (e ▸ hi))
        simp [this, e]
      · exact .inr ⟨k, c, e, z.sameBut hs (cne y c e)⟩
  · obtain ⟨w', z⟩ := I.cell y c e
    exact ⟨w', z.sameBut hs (cne y c e)⟩
  · obtain ⟨e, n, ne, nf, d⟩ := I.pin p hp
    exact ⟨(hs.2 p.1 ne).trans e, n, ne, nf, d⟩
end
def sgs3 : List Nat := [64, 60, 62]
def repI (l : List Nat) : Nat → List Nat
  | 0 => l
  | i + 1 => rep1 (sgs3.getD i 0) (repI l i)
theorem repI_3 (l : List Nat) : repI l 3 = rep l := rep_three l
theorem repI_len (l : List Nat) : ∀ i, i ≤ 3 → (repI l i).length ≤ 8 * l.length
  | 0, _ => by show l.length ≤ _; omega
  | 1, _ => by
    have := rep1_len 64 l
    show (rep1 64 l).length ≤ _
    omega
  | 2, _ => by
    have h1 := rep1_len 64 l
    have h2 := rep1_len 60 (rep1 64 l)
    show (rep1 60 (rep1 64 l)).length ≤ _
    omega
  | 3, _ => by
    have h1 := rep1_len 64 l
    have h2 := rep1_len 60 (rep1 64 l)
    have h3 := rep1_len 62 (rep1 60 (rep1 64 l))
    show (rep1 62 (rep1 60 (rep1 64 l))).length ≤ _
    omega
def tRep : TS := fun D σ H => ∃ (z : Str) (sv : Option V) (r : List (Option V)), σ = some (.str z) :: sv :: r ∧ z.length ≤ 20000 ∧ ∀ (z' : Str) (sv' : Option V), tl z' = rep (tl z) → D.nx (some (.str z') :: sv' :: r) H
section
variable {X : Cx} {j1 j2 : Nat} {q0 q1 q2 q3 q4 q5 q6 q7 q8 q9 q10 q11 : Pos}
def repBody (j2 : Nat) (q2 q3 q4 q5 q6 q7 q8 q9 q10 : Pos) : Stmt := .Assign [.Name "text" q2] (.Call (.Attribute (.Name "text" q3) "replace" q4) [.Name "sign" q5, .BinOp (.Constant (.str " ") j2 q6) .Add (.Name "sign" q7) q8] [] q9) q10
theorem ps_rep (hp : PassesOwn (model X.prog X.w) X.A X.env X.xe) (hc : X.calm = true) (hN : X.N.Nodup) (h0 : X.N[0]? = some ("text" : Str)) (h1 : X.N[1]? = some ("sign" : Str)) (k0 : X.env.kindOf "text" = some .local) (k1 : X.env.kindOf "sign" = some .local)
    (hst : starEach [.Name "sign" q5, .BinOp (.Constant (.str " ") j2 q6) .Add (.Name "sign" q7) q8] X.env = [(false, eval (.Name "sign" q5) X.env), (false, eval (.BinOp (.Constant (.str " ") j2 q6) .Add (.Name "sign" q7) q8) X.env)] := by rfl)
    (hbase : attributeBase (.Name "text" q3) "replace" X.env (eval (.Name "text" q3) X.env) = eval (.Name "text" q3) X.env := by rfl) (hline : (q4.endLine == q9.line) = true := by rfl)
    (hsw : swapsWith (.Call (.Attribute (.Name "text" q3) "replace" q4) [.Name "sign" q5, .BinOp (.Constant (.str " ") j2 q6) .Add (.Name "sign" q7) q8] [] q9) (some (.Name "text" q2)) q10.line X.env = pure false := by rfl)
    (hs : ∀ x, foldedSetIterable (.Constant (.str "@<>") j1 q1) X.env x = pure x := by intro _; rfl)
    (hf : X.fn ("text" : Str) = true ∨ X.env.scope.names.lookup ("text" : Str) = some .local := by first | exact .inl rfl | exact .inr rfl) :
    PS X (.For (.Name "sign" q0) (.Constant (.str "@<>") j1 q1) [repBody j2 q2 q3 q4 q5 q6 q7 q8 q9 q10] [] q11) tRep := by
  refine ⟨fun pins s σ H D I h => ?_⟩
  obtain ⟨z, sv0, r0, rfl, hz, k⟩ := h
  have hasc : (("@<>" : Str).cps.all (· < 128)) = true := by decide +kernel
  refine wpAny_For (Calls.Constant_str (wpAny_pyIter_ascii hasc ?_)) hs
  have zl := TL.len_tl z
  have I1 : Inv X pins (some (.str z) :: sv0 :: r0) H { s with heap := s.heap.push { cls := .type "str_ascii_iterator", data := .fields #[.str "@<>" s.toks, .int 0 0] }, toks := s.toks + 1 } := I.kept (t' := s.toks + 1) fun b o e => Heap.get?_push_of_some _ e
  have f0 : FpOk X pins H s.heap.objs.size := I.fpOk (Nat.le_refl _) (I.hok.fresh (Nat.le_refl _))
  refine codeAny_forLoop_any (fun n s' => ∃ (i : Nat) (x : Str) (sv : Option V), n = 3 - i ∧ i ≤ 3 ∧ tl x = repI (tl z) i ∧ Inv X pins (some (.str x) :: sv :: r0) H s' ∧ s'.heap.IsStrIter s.heap.objs.size "str_ascii_iterator" "@<>" s.toks i ∧ 1 ≤ s'.toks) ?_ 3
    ⟨0, z, sv0, rfl, by decide, rfl, I1, ⟨_, Heap.get?_push_size _ rfl, rfl, rfl⟩, Nat.succ_le_succ (Nat.zero_le _)⟩
  rintro n s3 ⟨i, x, sv, rfl, hi, hx, I3, st3, t3⟩
  obtain ⟨f1, f2, f3, f4, f5, f6⟩ := f0
  by_cases h3 : i = 3
  · subst h3
    refine wpAny_passesOwn hp (wpAny_pyNext_ascii_end (I3.ok.hd hc) st3 (by decide +kernel) fun h' eb => ?_)
    have I4 : Inv X pins (some (.str x) :: sv :: r0) H { s3 with heap := h' } := I3.turned (t' := s3.toks) (fun b o hb e => eb b o hb e) f1 f2 f4 f5 f6
    exact wpAny_execs_nil ⟨_, H, I4, k x sv (by rw [hx, repI_3])⟩
  · obtain ⟨c, hcx, hcs, hc128⟩ : ∃ c, ("@<>" : Str).cps[i]? = some c ∧ sgs3.getD i 0 = c ∧ c < 128 := by
      have : i = 0 ∨ i = 1 ∨ i = 2 := by omega
      rcases this with rfl | rfl | rfl
      · exact ⟨64, by decide +kernel, rfl, by decide⟩
      · exact ⟨60, by decide +kernel, rfl, by decide⟩
      · exact ⟨62, by decide +kernel, rfl, by decide⟩
    refine wpAny_passesOwn hp (wpAny_pyNext_ascii_item st3 hcx fun h' st4 sb => ?_)
    have I4 : Inv X pins (some (.str x) :: sv :: r0) H { s3 with heap := h', toks := s3.toks + 1 } := I3.turned (fun b o hb e => (sb.2 b hb).trans e) f1 f2 f4 f5 f6
    obtain ⟨oi, e4, c4, d4⟩ := id st4
    refine wpAny_passesOwn hp (go_of (s := { s3 with heap := h', toks := s3.toks + 1 }) e4 c4 d4 (by decide) ?_)
    have I5 : Inv X (pins ++ [(s.heap.objs.size, oi)]) (some (.str x) :: sv :: r0) H { s3 with heap := h', toks := s3.toks + 1 } := I4.pins_of fun p hp => (List.mem_append.mp hp).elim (fun z => I4.pin p (List.mem_append_right _ z)) fun z => by
      obtain rfl := List.mem_singleton.mp z
      exact ⟨e4, f1, f2, f3, fun v q => by rw [d4] at q; cases q⟩
    refine wpAny_passesOwn hp (wpAny_assign_Name (store_tok I5 hN h1 k1 (v := .str ⟨#[c]⟩) ⟨s3.toks, rfl⟩ fun s6 I6 t6 ⟨m6, n6, e6⟩ => ?_))
    have t6 : s3.toks + 1 ≤ s6.toks := t6
    refine wpAny_passesOwn hp (wpAny_execs_cons (wpAny_Assign_Name (PySem.Call_method2 hbase hst hline ?_) hsw))
    obtain ⟨m0, n0, l0⟩ := id I6.loc
    obtain ⟨ut, rt, lt⟩ := l0 0 ("text" : Str) (.str x) h0 rfl (.inl k0)
    obtain ⟨tx, rfl⟩ := rt
    have et : m0 ("text" : Str) = some (.str x tx) := by
      rcases lt with ⟨_, et⟩ | ⟨hk, _⟩
      · exact et
      · rcases hk with hk | hk
        · rw [k0] at hk; cases hk
        · rw [k0] at hk; cases hk
    have sl1 : ((" " : Str).length == 0) = false := by decide +kernel
    have sl2 : ((⟨#[c]⟩ : Str).length == 0) = false := rfl
    have hxl : x.length ≤ 160000 := by
      have := repI_len (tl z) i hi
      rw [TL.len_tl, hx]
      omega
    have zz : (" " ++ (⟨#[c]⟩ : Str) : Str).length = 2 := by
      rw [app_len]
      show spS1.length + 1 = 2
      rw [sp_len]
    refine wpAny_Name (wpAny_loadName_local I6.ok.kind k0 n0 et ?_)
    refine ⟨"str", _, PySem.F.plainAttrs_str, PySem.F.slot_str_replace, PySem.F.type_str_replace, typeIs_str _ _ _, (fun _ e => nomatch e), Calls.callWith_builtin rfl (Calls.evalArgs_plain (Calls.spliced_cons ?_))⟩
    refine wpAny_Name (wpAny_loadName_local I6.ok.kind k1 n6 e6 (Calls.spliced_cons ?_))
    refine wpAny_BinOp (Calls.Constant_str ?_)
    refine wpAny_Name (wpAny_loadName_local I6.ok.kind k1 n6 e6 ?_)
    refine PySem.P.add_str ?_
    rw [sl1, sl2]
    refine ⟨by rw [zz]; decide, Calls.spliced_nil ?_⟩
    have hy : tl (⟨#[c]⟩ : Str) = [c] := rfl
    have hzz : tl (" " ++ (⟨#[c]⟩ : Str) : Str) = [32, c] := by
      rw [TL.tl_append]
      show tl spS1 ++ [c] = _
      rw [tl_sp]
      rfl
    have hyz : ((⟨#[c]⟩ : Str) == " " ++ (⟨#[c]⟩ : Str)) = false := by
      cases e : ((⟨#[c]⟩ : Str) == " " ++ (⟨#[c]⟩ : Str)) with
      | false => rfl
      | true =>
        have e := congrArg tl (eq_of_beq e)
        rw [hy, hzz] at e
        cases e
    refine wpAny_with_toks (n := 1) (show 1 ≤ s6.toks + 1 + 1 by omega) (PySem.SC.replace (show s3.toks ≠ 0 by omega) (show s6.toks + 1 ≠ 0 by omega) (show s3.toks ≠ s6.toks + 1 by omega) hyz (by rw [zz]; omega) fun t' k' hk' => ?_)
    have I7 : Inv X (pins ++ [(s.heap.objs.size, oi)]) (some (.str x) :: some (.str ⟨#[c]⟩) :: r0) H { s6 with toks := k' } := I6.tok k'
    refine store_tok I7 hN h0 k0 (v := .str (Txt.replace x ⟨#[c]⟩ (" " ++ (⟨#[c]⟩ : Str)))) ⟨t', rfl⟩ fun s8 I8 t8 _ => ?_
    have hk1 : 1 ≤ k' := hk'
    have t8 : k' ≤ s8.toks := t8
    refine wpAny_execs_nil ⟨3 - (i + 1), by omega, i + 1, Txt.replace x ⟨#[c]⟩ (" " ++ (⟨#[c]⟩ : Str)), some (.str ⟨#[c]⟩), rfl, by omega, ?_, I8.unpinned, ?_, by omega⟩
    · rw [replace_tl hy hzz, hx]
      show _ = rep1 (sgs3.getD i 0) (repI (tl z) i)
      rw [hcs]
    · exact ⟨oi, (I8.pin (s.heap.objs.size, oi) (List.mem_append_right _ (List.mem_append_right _ (List.mem_singleton.mpr rfl)))).1, c4, d4⟩
end
end K80

set_option Elab.async false
set_option linter.all false
set_option pp.maxSteps 900
set_option maxRecDepth 100000
set_option maxHeartbeats 4000000
namespace K80
open PySem PySem.Spec PyProof.Rows L2
open TL (tl)
abbrev sLW : Stmt := top 50
section
variable {X : Cx}
/-- xs == [], xs any list -/
theorem op_eqNil (hu : X.A.units + 64 < cLine) : OpR X (compareOp .Eq) (fun x y H Q => ∃ (a b : Addr) (xs : List V), x = .ref a ∧ y = .ref b ∧ SqL X.K H a xs ∧ SqL X.K H b [] ∧ Q (.bl xs.isEmpty) H) := by
  intro pins s σ H x y v u Q I rx ry h
  obtain ⟨a, b, xs, rfl, rfl, ha, hb, q⟩ := h
  cases (show v = Value.ref a from rx)
  cases (show u = Value.ref b from ry)
  obtain ⟨us, r1, p1, _⟩ := I.list ha
  obtain ⟨ws, r2, p2, _⟩ := I.list hb
  cases r2
  cases r1 with
  | nil => exact SeqAt.eq_listAt (e := fun _ => true) p1.isList p2.isList rfl (by omega) (fun j h1 _ => absurd h1 (by simp)) (fin_bl I q rfl)
  | cons h t => exact SeqAt.eq_list_lengthsAt p1.isList p2.isList (by simp) (by omega) (fin_bl I q rfl)
end
section
variable {X : Cx}
/-- xs != [], xs any list -/
theorem op_neNil (hu : X.A.units + 64 < cLine) : OpR X (compareOp .NotEq) (fun x y H Q => ∃ (a b : Addr) (xs : List V), x = .ref a ∧ y = .ref b ∧ SqL X.K H a xs ∧ SqL X.K H b [] ∧ Q (.bl (!xs.isEmpty)) H) := by
  intro pins s σ H x y v u Q I rx ry h
  obtain ⟨a, b, xs, rfl, rfl, ha, hb, q⟩ := h
  cases (show v = Value.ref a from rx)
  cases (show u = Value.ref b from ry)
  obtain ⟨us, r1, p1, _⟩ := I.list ha
  obtain ⟨ws, r2, p2, _⟩ := I.list hb
  cases r2
  cases r1 with
  | nil => exact SeqAt.RcNeAt.lists (e := fun _ => true) p1.isList p2.isList rfl (by omega) (fun j h1 _ => absurd h1 (by simp)) _ _ _ _ (fin_bl I q rfl)
  | cons h t => exact SeqAt.RcNeAt.lists_lengths p1.isList p2.isList (by simp) (by omega) _ _ _ _ (fin_bl I q rfl)
end
abbrev sRL : Stmt := top 51
def spLW : Sp := fun vs H Q _ => ∃ (z : Str) (most : Nat), vs = [.str z, .int (most : Nat)] ∧ z.length ≤ 1000000 ∧ ∀ H', Same H H' → Q (.bl (lw most (tl z))) H'
def spRL : Sp := fun vs H Q _ => ∃ z : Str, vs = [.str z] ∧ z.length ≤ 20000 ∧ ∀ (v : V) (H' : Hp), Same H H' → (∀ g, DV g H' v (oD labD (labOf (tl z)))) → Q v H'
theorem lw_false {most : Nat} {l : List Nat} (h : ¬ (1 ≤ l.length ∧ l.length ≤ 3)) : lw most l = false := by
  unfold lw
  cases e : canon 3 l with
  | false => rfl
  | true =>
    obtain ⟨h1, h2, _⟩ := canon_parts e
    exact absurd ⟨h1, h2⟩ h
theorem lw_all {most : Nat} {l : List Nat} (h : l.all dig = false) : lw most l = false := by
  unfold lw
  cases e : canon 3 l with
  | false => rfl
  | true =>
    have : l.all dig = true := List.all_eq_true.mpr (canon_parts e).2.2.1
    rw [h] at this
    cases this
theorem lw_zero {most : Nat} {l : List Nat} (h : l.getD 0 0 = 48) (h2 : l ≠ [48]) : lw most l = false := by
  unfold lw
  cases e : canon 3 l with
  | false => rfl
  | true => exact absurd ((canon_parts e).2.2.2 h) h2
theorem lw_good {most : Nat} {l : List Nat} (h : 1 ≤ l.length ∧ l.length ≤ 3) (h2 : l.all dig = true) (h3 : l.getD 0 0 = 48 → l = [48]) : lw most l = decide (dv l ≤ most) := by
  unfold lw
  rw [canon_of h.1 h.2 (fun c hc => List.all_eq_true.mp h2 c hc) h3]
  rfl
section
variable {P : Program} {w : World} {K : PySem.W.Frag} {mg : Str → Option Value} {base : Heap}
theorem scLw : FnScope ["text", "most", "sign"] ["text", "most"] (defScope sLW) := ⟨rfl, rfl, rfl, by decide +kernel, rfl, by decide +kernel, by decide +kernel⟩
theorem ok_lw {f : Addr} {fd : FuncData} (F : Fun K "_law_whole" "_law_whole" sLW f fd) (T : Bn mg) : FnOk P w K mg base CX0 1 f fd ["text", "most"] spLW := by
  refine F.ok scLw (fun vs H Q E h => ?_) (fun cdv A outer s H vs Q E hr h => ?_)
  · obtain ⟨z, most, rfl, _⟩ := h
    rfl
  · obtain ⟨z, most, rfl, hz, k⟩ := h
    refine ⟨_, (pss_cons (ps_if (PW.pt (pw_or (pt_cmpR op_eq (pv 0) pe_str (nomark _)) (pw_or (pt_cmpR op_gt (pe_callB call_len_str (by rfl) T.len PySem.boot_len (pa_cons (pv 0) pa_nil)) pe_int (nomark _)) (pw_or1 (pt_cmpR (op_neNil hr.units) (pe_lc (own := [("sign", 2)]) (g := gName 2) (by rfl) scLw.nd (pi_str (pv 0)) (blkOk_by (own := [("sign", 2)]) (N := ["text", "most", "sign"]) (sc := defScope sLW) (by decide +kernel)) (fun _ _ _ _ _ => (pg_name (i := 2) scLw.nd rfl (Or.inl rfl))) (fun _ _ _ _ _ => (pts_one (pt_cmpR op_notIn_sign (pv 2) pe_str (by rfl)))) (fun _ _ _ _ _ => (pv 2))) (pe_lst pa_nil) (nomark _)))))) (pss_one (ps_ret pe_bl)) pss_nil)
      (pss_one (ps_ret (pe_and (pe_or (pe_cmpR op_eq (pv 0) pe_str (nomark _)) (pe_one (pe_cmpR op_ne (pe_ix ix_str (pv 0) pe_int (fun _ _ => rfl)) pe_str (nomark _)))) (pe_one (pe_cmpR op_le (pe_callTy call_int_str (by rfl) T.int (by decide +kernel) (pa_cons (pv 0) pa_nil)) (pv 1) (nomark _))))))), ?_⟩
    have zl := TL.len_tl z
    have e0 : decide (V.str z = V.str (Str.ofString "")) = decide (tl z = []) := by
      rw [dec_str, decide_eq_decide]
      constructor
      · intro e
        rw [e]
        exact emp_tl
      · intro e
        exact str_ext (e.trans emp_tl.symm)
    have e48 : 1 ≤ z.length → decide (V.str (⟨#[(tl z).getD 0 0]⟩ : Str) = V.str (Str.ofString "0")) = decide ((tl z).getD 0 0 = 48) := fun _ => by
      rw [dec_str, decide_eq_decide]
      constructor
      · intro e
        have q : [(tl z).getD 0 0] = tl ("0" : Str) := congrArg tl e
        rw [zero_tl] at q
        injection q
      · intro e
        rw [e]
        decide +kernel
    have e00 : decide (V.str z = V.str (Str.ofString "0")) = decide (tl z = [48]) := by
      rw [dec_str, decide_eq_decide]
      constructor
      · intro e
        rw [e]
        exact zero_tl
      · intro e
        exact str_ext (e.trans zero_tl.symm)
    refine ⟨_, rfl, rfl, _, rfl, ?_⟩
    by_cases z0 : tl z = []
    · rw [lw_false (fun q => by rw [z0] at q; exact absurd q.1 (by decide))] at k
      refine ifT (by rw [e0]; exact decide_eq_true z0) ?_
      exact k H (Same.refl H)
    have hpos : 1 ≤ (tl z).length := by
      rcases Nat.eq_zero_or_pos (tl z).length with e | e
      · exact absurd (List.length_eq_zero_iff.mp e) z0
      · exact e
    refine ifF (by rw [e0]; exact decide_eq_false z0) ?_
    refine ⟨_, rfl, z, rfl, (by rw [sizeLine_eq]; omega), _, _, rfl, rfl, _, rfl, ?_⟩
    by_cases h3 : z.length ≤ 3
    rotate_left
    · rw [lw_false (fun q => h3 (by omega))] at k
      refine ifT (decide_eq_true (by omega)) ?_
      exact k H (Same.refl H)
    refine ifF (decide_eq_false (by omega)) ?_
    refine ⟨_, rfl, z, rfl, ?_⟩
    intro D hD
    refine lc_it (walk_str (z := z)) (fun i H' => ∃ xs, H' D = some (.lst xs) ∧ xs.isEmpty = ((tl z).take i).all dig ∧ xs.length ≤ i ∧ Same H H') ⟨[], upd_same, rfl, Nat.le_refl _, same_new hD⟩ (fun _ _ _ _ => trivial) ?_ ?_
    · rintro i v H2z H2 hi ⟨xs, x1, x2, x3, s2⟩ ⟨rfl, c, hx, rfl⟩
      have hc : (tl z)[i]? = some c := by rw [← hx, Array.getElem?_toList]
      refine ⟨rfl, ?_⟩
      refine ⟨_, rfl, c, D10, rfl, rfl, _, rfl, ?_⟩
      rw [mem_D10]
      have et : (tl z).take (i + 1) = (tl z).take i ++ [c] := by
        rw [List.take_succ, hc]
        rfl
      have hil : i < (tl z).length := (List.getElem?_eq_some_iff.mp hc).1
      cases hd : dig c with
      | true =>
        refine ifF rfl ?_
        exact ⟨xs, x1, by rw [et, List.all_append, ← x2, List.all_cons, hd]; simp, by omega, s2⟩
      | false =>
        refine ifT rfl ?_
        refine ⟨_, rfl, xs, x1, (by rw [sizeLine_eq]; omega), xs ++ [V.str ⟨#[c]⟩], upd_same, ?_, ?_, ?_⟩
        · rw [et, List.all_append, List.all_cons, hd]
          simp
        · rw [List.length_append]
          show xs.length + 1 ≤ i + 1
          omega
        · intro b o e
          rw [upd_ne (ne_of_none e hD)]
          exact s2 _ _ e
    · rintro H2 ⟨xs, x1, x2, x3, s2⟩
      rw [show z.cps.size = (tl z).length from zl, List.take_length] at x2
      refine ⟨Nat.zero_le _, fun q hq => ?_⟩
      generalize hH3 : upd H2 q _ = H3
      obtain ⟨sq, eq⟩ := freshF hq hH3
      refine ⟨D, q, xs, rfl, rfl, SqL.of (sq _ _ x1), SqL.of eq, _, rfl, ?_⟩
      have s3 := s2.trans sq
      cases ha : (tl z).all dig with
      | false =>
        rw [ha] at x2
        rw [lw_all ha] at k
        refine ifT (by rw [x2]; rfl) ?_
        exact k H3 s3
      | true =>
        rw [ha] at x2
        refine ifF (by rw [x2]; rfl) ?_
        have iT : intText? z = some ((dv (tl z) : Nat) : Int) := intText_digits (fun c hc => dig_iff.mp (List.all_eq_true.mp ha c hc)) z0 (by omega)
        refine ⟨_, rfl, rfl, _, rfl, ?_⟩
        have fin : ((tl z).getD 0 0 = 48 → tl z = [48]) → Q (.bl (decide (((dv (tl z) : Nat) : Int) ≤ ((most : Nat) : Int)))) H3 := fun hg => by
          rw [lw_good (by omega) ha hg] at k
          have e : decide (((dv (tl z) : Nat) : Int) ≤ ((most : Nat) : Int)) = decide (dv (tl z) ≤ most) := by
            rw [decide_eq_decide]
            omega
          rw [e]
          exact k H3 s3
        by_cases c1 : tl z = [48]
        · refine ifT (by rw [e00]; exact decide_eq_true c1) ⟨_, rfl, ifT rfl ⟨_, rfl, z, _, rfl, iT, by omega, _, rfl, _, _, rfl, rfl, ?_⟩⟩
          exact fin fun _ => c1
        · refine ifF (by rw [e00]; exact decide_eq_false c1) ?_
          refine ⟨_, rfl, z, 0, _, rfl, rfl, (by rw [sizeLine_eq]; omega), first_at (by omega), rfl, _, rfl, ?_⟩
          by_cases c0 : (tl z).getD 0 0 = 48
          · refine ifF (by rw [e48 (by omega), decide_eq_true c0]; rfl) ?_
            rw [lw_zero c0 c1] at k
            exact k H3 s3
          · refine ifT (by rw [e48 (by omega), decide_eq_false c0]; rfl) ⟨_, rfl, z, _, rfl, iT, by omega, _, rfl, _, _, rfl, rfl, ?_⟩
            exact fin fun z => absurd z c0
end
end K80

set_option Elab.async false
set_option linter.all false
set_option pp.maxSteps 900
set_option maxRecDepth 100000
set_option maxHeartbeats 4000000
namespace K80
open PySem PySem.Spec PyProof.Rows L2
open TL (tl)
theorem rdM_cons_bad {x : List Nat} {r : List (List Nat)} (h : rdM [x] = none) : rdM (x :: r) = none := by
  cases x with
  | nil => rfl
  | cons s b =>
    have h : (if sgn s = true then (match pairOf b, (some [] : Option (List (Nat × Nat × Nat))) with
      | some (f, k), some m => some ((s, f, k) :: m)
      | _, _ => none) else none) = none := h
    show (if sgn s = true then (match pairOf b, rdM r with
      | some (f, k), some m => some ((s, f, k) :: m)
      | _, _ => none) else none) = none
    by_cases hs : sgn s = true
    · rw [if_pos hs] at h ⊢
      cases e : pairOf b with
      | none => rfl
      | some q => rw [e] at h; cases h
    · rw [if_neg hs]
theorem rdM_bad_at {ps : List (List Nat)} {i : Nat} {x : List Nat} (h : ps[i]? = some x) (hx : rdM [x] = none) : rdM ps = none := by
  have e : ps = ps.take i ++ x :: ps.drop (i + 1) := by
    obtain ⟨hi, e⟩ := List.getElem?_eq_some_iff.mp h
    rw [← e]
    rw [← List.drop_eq_getElem_cons hi, List.take_append_drop]
  rw [e]
  exact rdM_app (rdM_cons_bad hx)
theorem rdM_snoc : ∀ {A : List (List Nat)} {m : List (Nat × Nat × Nat)} {s : Nat} {b : List Nat} {f k : Nat}, rdM A = some m → sgn s = true → pairOf b = some (f, k) → rdM (A ++ [s :: b]) = some (m ++ [(s, f, k)])
  | [], m, s, b, f, k, h, hs, hb => by
    obtain rfl := Option.some.inj h
    show (if sgn s = true then (match pairOf b, (some [] : Option (List (Nat × Nat × Nat))) with
      | some (f, k), some m => some ((s, f, k) :: m)
      | _, _ => none) else none) = _
    rw [if_pos hs, hb]
    rfl
  | [] :: r, m, s, b, f, k, h, hs, hb => by cases h
  | (c :: a) :: r, m, s, b, f, k, h, hs, hb => by
    have h : (if sgn c = true then (match pairOf a, rdM r with
      | some (f, k), some m => some ((c, f, k) :: m)
      | _, _ => none) else none) = some m := h
    show (if sgn c = true then (match pairOf a, rdM (r ++ [s :: b]) with
      | some (f, k), some m => some ((c, f, k) :: m)
      | _, _ => none) else none) = _
    by_cases hc : sgn c = true
    · rw [if_pos hc] at h ⊢
      cases e1 : pairOf a with
      | none => rw [e1] at h; cases h
      | some q =>
        cases e2 : rdM r with
        | none => rw [e1, e2] at h; cases h
        | some m' =>
          rw [e1, e2] at h
          obtain rfl := Option.some.inj h
          rw [rdM_snoc e2 hs hb]
          rfl
    · rw [if_neg hc] at h
      cases h
theorem rdL_bad0 {ps : List (List Nat)} {p : List Nat} (h : ps[0]? = some p) (hp : pairOf p = none) : rdL ps = none := by
  cases ps with
  | nil => rfl
  | cons x r =>
    obtain rfl := Option.some.inj h
    show (match pairOf x, rdM r with
      | some q, some m => if m.length < 9 then some (q, m) else none
      | _, _ => none) = none
    rw [hp]
theorem rdL_bad {ps : List (List Nat)} {i : Nat} {x : List Nat} (h : ps[i + 1]? = some x) (hx : rdM [x] = none) : rdL ps = none := by
  cases ps with
  | nil => rfl
  | cons p r =>
    show (match pairOf p, rdM r with
      | some q, some m => if m.length < 9 then some (q, m) else none
      | _, _ => none) = none
    rw [rdM_bad_at (i := i) h hx]
    cases pairOf p <;> rfl
theorem rdL_good {p : List Nat} {r : List (List Nat)} {q : Nat × Nat} {m : List (Nat × Nat × Nat)} (h1 : pairOf p = some q) (h2 : rdM r = some m) : rdL (p :: r) = if m.length < 9 then some (q, m) else none := by
  show (match pairOf p, rdM r with
    | some q, some m => if m.length < 9 then some (q, m) else none
    | _, _ => none) = _
  rw [h1, h2]
/-- the first sign of a piece -/
theorem cut_first {x : Str} : tl (cutS x none (some 1)) = (tl x).take 1 := by
  have hl : (tl x).length = x.length := (TL.len_tl x).symm
  show ((x.cps.toList.drop (HT.sIx x.length 0 none)).take (HT.sIx x.length x.length (some ((1 : Nat) : Int)) - HT.sIx x.length 0 none)) = _
  rw [HT.sIx_nat, HT.sIx_none, List.drop_zero, Nat.sub_zero]
  show (tl x).take (min 1 x.length) = _
  by_cases h : 1 ≤ x.length
  · rw [show min 1 x.length = 1 by omega]
  · have : tl x = [] := List.length_eq_zero_iff.mp (by omega)
    rw [this]
    simp
theorem cut_rest {x : Str} : tl (cutS x (some 1) none) = (tl x).drop 1 := by
  have hl : (tl x).length = x.length := (TL.len_tl x).symm
  show ((x.cps.toList.drop (HT.sIx x.length 0 (some ((1 : Nat) : Int)))).take (HT.sIx x.length x.length none - HT.sIx x.length 0 (some ((1 : Nat) : Int)))) = _
  rw [HT.sIx_nat, HT.sIx_none]
  show ((tl x).drop (min 1 x.length)).take (x.length - min 1 x.length) = _
  by_cases h : 1 ≤ x.length
  · rw [show min 1 x.length = 1 by omega]
    refine List.take_of_length_le ?_
    rw [List.length_drop]
    omega
  · have : tl x = [] := List.length_eq_zero_iff.mp (by omega)
    rw [this]
    simp
def kw0 (o : Option Str) : V := match o with
  | none => .non
  | some x => .str x
/-- the word of a piece that begins with a sign -/
def pw (p : List Nat) : Option (Nat × List Nat) := match p with
  | [] => none
  | s :: b => if sgn s = true then some (s, b) else none
theorem pw_look {x : Str} : valV vk3 (.inr (cutS x none (some 1))) = (pw (tl x)).map fun y => V.str (mw y.1) := by
  have e := cut_first (x := x)
  cases hx : tl x with
  | nil =>
    rw [hx] at e
    have : cutS x none (some 1) = Str.empty := str_ext e
    rw [this]
    exact vk3_no fun s _ z => by
      have := congrArg tl z
      cases this
  | cons s b =>
    rw [hx] at e
    have e1 : cutS x none (some 1) = sgS s := str_ext e
    rw [e1]
    by_cases hs : sgn s = true
    · rw [vk3_at hs]
      show _ = (if sgn s = true then some (s, b) else none).map _
      rw [if_pos hs]
      rfl
    · rw [vk3_no fun c hc z => hs (by
        have q : [s] = [c] := congrArg tl z
        injection q with q
        rw [q]
        exact hc)]
      show _ = (if sgn s = true then some (s, b) else none).map _
      rw [if_neg hs]
      rfl
theorem rdM_one (x : List Nat) : rdM [x] = match pw x with
    | none => none
    | some (s, b) => (pairOf b).map fun q => [(s, q.1, q.2)] := by
  cases x with
  | nil => rfl
  | cons s b =>
    show (if sgn s = true then (match pairOf b, (some [] : Option (List (Nat × Nat × Nat))) with
      | some (f, k), some m => some ((s, f, k) :: m)
      | _, _ => none) else none) = match (if sgn s = true then some (s, b) else none) with
      | none => none
      | some (s, b) => (pairOf b).map fun q => [(s, q.1, q.2)]
    by_cases hs : sgn s = true
    · rw [if_pos hs, if_pos hs]
      show _ = (pairOf b).map fun q => [(s, q.1, q.2)]
      cases e : pairOf b <;> rfl
    · rw [if_neg hs, if_neg hs]
theorem pw_some {p : List Nat} {s : Nat} {b : List Nat} (h : pw p = some (s, b)) : p = s :: b ∧ sgn s = true := by
  cases p with
  | nil => cases h
  | cons c a =>
    have h : (if sgn c = true then some (c, a) else none) = some (s, b) := h
    by_cases hs : sgn c = true
    · rw [if_pos hs] at h
      injection h with h
      injection h with h1 h2
      rw [← h1, ← h2]
      exact ⟨rfl, hs⟩
    · rw [if_neg hs] at h
      cases h
def blOf (x : List Nat) (wo : Option (Nat × List Nat)) : List Nat := match wo with
  | none => x
  | some y => y.2
theorem law_two {p : List Nat} (h : (spS 46 p).length ≠ 2) : pairOf p = none := by
  rw [← lawPair_eq]
  unfold lawPair
  match e : spS 46 p, h with
  | [], _ => rfl
  | [_], _ => rfl
  | [_, _], h => exact absurd rfl h
  | _ :: _ :: _ :: _, _ => rfl
theorem law_pair {p a b : List Nat} (h : spS 46 p = [a, b]) : pairOf p = if lw 5 a = true ∧ lw 999 b = true then some (dv a, dv b) else none := by
  rw [← lawPair_eq]
  unfold lawPair
  rw [h]
theorem lw_int {most : Nat} {x : Str} (h : lw most (tl x) = true) : intText? x = some ((dv (tl x) : Nat) : Int) ∧ x.length ≤ 640 := by
  unfold lw at h
  rw [Bool.and_eq_true] at h
  obtain ⟨h1, h2, h3, _⟩ := canon_parts h.1
  have hx := TL.len_tl x
  refine ⟨intText_digits (fun c hc => dig_iff.mp (h3 c hc)) (fun e => ?_) (by omega), by omega⟩
  have e : tl x = [] := e
  rw [e] at h1
  exact absurd h1 (by decide)
section
variable {P : Program} {w : World} {K : PySem.W.Frag} {mg : Str → Option Value} {base : Heap}
theorem scRl : FnScope ["text", "sign", "found", "piece", "word", "words"] ["text"] (defScope sRL) := ⟨rfl, rfl, rfl, by decide +kernel, rfl, by decide +kernel, by decide +kernel⟩
theorem ok_rl {f : Addr} {fd : FuncData} (F : Fun K "_law_read_label" "_law_read_label" sRL f fd) (T : Bn mg) (cLW : Cl P w K mg base "_law_whole" ["text", "most"] 1 spLW) : FnOk P w K mg base CX0 2 f fd ["text"] spRL := by
  obtain ⟨fLW, fdLW, GLW, mLW, kLW, bLW⟩ := cLW
  refine F.ok scRl (fun vs H Q E h => ?_) (fun cdv A outer s H vs Q E hr h => ?_)
  · obtain ⟨z, rfl, _⟩ := h
    rfl
  · obtain ⟨z, rfl, hz, k⟩ := h
    have hr1 : Room 1 _ := hr.mono (by decide)
    have hu := hu_of hr
    refine ⟨_, (pss_cons (ps_rep PassesOwn.never rfl scRl.nd rfl rfl rfl rfl)
      (pss_cons (ps_set (i := 2) scRl.nd rfl (Or.inl rfl) (pe_lst pa_nil))
      (pss_cons (ps_for PassesOwn.never rfl (pi_list (pe_split (pv 0) pe_str)) (pg_name (i := 3) scRl.nd rfl (Or.inl rfl))
          (pss_mid (ps_set (i := 4) scRl.nd rfl (Or.inl rfl) (pe_ifExp (pt_cmpR (op_neNil hr.units) (pv 2) (pe_lst pa_nil) (nomark _)) (pe_dget1 hu (pe_disp (pps_cons pe_str pe_str (pps_cons pe_str pe_str (pps_cons pe_str pe_str pps_nil))) (by rfl) (by rfl) (fun z => by cases z) (by decide)) (pe_slice sl_str (pv 3) po_none (po_some pe_int)) ⟨by rfl, by rfl, by rfl, by rfl⟩) pe_non))
          (pss_mid (ps_set (i := 5) scRl.nd rfl (Or.inl rfl) (pe_split (pe_ifExp (pt_cmpR op_notN (pv 4) pe_non (nomark _)) (pe_slice sl_str (pv 3) (po_some pe_int) po_none) (pv 3)) pe_str))
          (pss_cons (ps_if (PW.pt (pw_or (pt_cmpR op_ne (pe_callB call_len_seq (by rfl) T.len PySem.boot_len (pa_cons (pv 5) pa_nil)) pe_int (nomark _)) (pw_or (pt_not (pt_val (pe_call GLW hr1 (by rfl) mLW kLW bLW .nil pass0 (pa_cons (pe_ix ix_list (pv 5) pe_int (fun _ _ => rfl)) (pa_cons pe_int pa_nil))))) (pw_or1 (pt_not (pt_val (pe_call GLW hr1 (by rfl) mLW kLW bLW .nil pass0 (pa_cons (pe_ix ix_list (pv 5) pe_int (fun _ _ => rfl)) (pa_cons pe_int pa_nil))))))))) (pss_one (ps_ret pe_non)) pss_nil)
          (pss_cons (ps_if (PW.pt (pw_and (pt_cmpR (op_neNil hr.units) (pv 2) (pe_lst pa_nil) (nomark _)) (pw_and1 (pt_cmpR op_isN (pv 4) pe_non (nomark _))))) (pss_one (ps_ret pe_non)) pss_nil)
          (pss_one (ps_expr (qApp (pv 2) (pe_ifExp (pt_cmpR (op_eqNil hr.units) (pv 2) (pe_lst pa_nil) (nomark _)) (pe_tup (pa_cons (pe_callTy call_int_str (by rfl) T.int (by decide +kernel) (pa_cons (pe_ix ix_list (pv 5) pe_int (fun _ _ => rfl)) pa_nil)) (pa_cons (pe_callTy call_int_str (by rfl) T.int (by decide +kernel) (pa_cons (pe_ix ix_list (pv 5) pe_int (fun _ _ => rfl)) pa_nil)) pa_nil))) (pe_tup (pa_cons (pv 4) (pa_cons (pe_callTy call_int_str (by rfl) T.int (by decide +kernel) (pa_cons (pe_ix ix_list (pv 5) pe_int (fun _ _ => rfl)) pa_nil)) (pa_cons (pe_callTy call_int_str (by rfl) T.int (by decide +kernel) (pa_cons (pe_ix ix_list (pv 5) pe_int (fun _ _ => rfl)) pa_nil)) pa_nil)))))))))))))
      (pss_one (ps_ret (pe_ifExp (pt_cmpR op_lt (pe_callB call_len_seq (by rfl) T.len PySem.boot_len (pa_cons (pv 2) pa_nil)) pe_int (nomark _)) (pe_op op_catA (pe_ix ix_list (pv 2) pe_int (fun _ _ => rfl)) (pe_tup (pa_cons (pe_callTy call_tuple_of (by rfl) T.tpl (by decide +kernel) (pa_cons (pe_slice sl_list (pv 2) (po_some pe_int) po_none) pa_nil)) pa_nil))) pe_non)))))), ?_⟩
    have zl := TL.len_tl z
    refine ⟨z, _, _, rfl, hz, fun z' sv' hz' => ?_⟩
    refine ⟨Nat.zero_le _, fun p hp => ?_⟩
    generalize hH1 : upd H p _ = H1
    obtain ⟨sp, ep⟩ := freshF hp hH1
    have zl' := TL.len_tl z'
    have hrl : z'.length ≤ 160000 := by
      have := repI_len (tl z) 3 (Nat.le_refl _)
      rw [repI_3] at this
      rw [zl', hz']
      omega
    refine ⟨_, rfl, ⟨_, rfl⟩, z', spS1, rfl, rfl, (by decide +kernel), (by rw [sizeLine_eq]; omega), fun a ha => ?_⟩
    have hms : (Txt.split z' spS1).map tl = spS 32 (rep (tl z)) := by
      rw [← hz']
      exact split_spS tl_sp (by decide)
    generalize Txt.split z' spS1 = ms at hms ⊢
    generalize hH2 : upd H1 a _ = H2
    obtain ⟨sa, ea⟩ := freshF ha hH2
    have hpa : p ≠ a := ne_of_none ep ha
    have ha0 : H a = none := sp.free ha
    have hread := read_lab (tl z)
    have hmsat : ∀ {i : Nat} {x : Str}, ms[i]? = some x → (spS 32 (rep (tl z)))[i]? = some (tl x) := fun {i x} h => by
      rw [← hms, List.getElem?_map, h]
      rfl
    have hml : ms.length ≤ 160001 ∧ ∀ x ∈ ms, x.length ≤ 160000 := by
      obtain ⟨h1, h2⟩ := spS_parts 32 (rep (tl z))
      rw [← hz', ← zl'] at h1 h2
      rw [← hz'] at hms
      have hl : ms.length = (spS 32 (tl z')).length := by rw [← hms, List.length_map]
      refine ⟨by omega, fun x hx => ?_⟩
      have := h2 (tl x) (by rw [← hms]; exact List.mem_map.mpr ⟨x, hx, rfl⟩)
      rw [TL.len_tl]
      omega
    generalize hPS : spS 32 (rep (tl z)) = PS at hms hread hmsat
    refine ⟨a, rfl, ⟨_, SqL.of ea⟩, for_it (walk_list (K := K) (a := a) (xs := ms.map V.str)) (fun i σ H' => ∃ (pv wv wsv : Option V) (vs : List V), σ = [some (.str z'), sv', some (.ref p), pv, wv, wsv] ∧ H' p = some (.lst vs) ∧ Same H H' ∧ H' a = some (.lst (ms.map V.str)) ∧
        ((i = 0 ∧ vs = []) ∨ ∃ q m, 1 ≤ i ∧ (∃ p0, PS[0]? = some p0 ∧ pairOf p0 = some q) ∧ rdM ((PS.drop 1).take (i - 1)) = some m ∧ m.length = i - 1 ∧ ∀ g, DVs g H' vs (pairD q :: m.map markD)))
      ⟨none, none, none, [], rfl, sa _ _ ep, sp.trans sa, ea, .inl ⟨rfl, rfl⟩⟩ (fun i σ H' _ ⟨_, _, _, _, _, _, _, e, _⟩ => SqL.of e) ?_ ?_⟩
    · rintro i v σ H3z H3 hi ⟨pv0, wv0, wsv0, vs, rfl, e1, s3, e2, hinv⟩ ⟨rfl, hx⟩
      rw [List.getElem?_map] at hx
      obtain ⟨x, hmx, rfl⟩ := Option.map_eq_some_iff.mp hx
      have hxP := hmsat hmx
      have hxl := hml.2 x (List.mem_of_getElem? hmx)
      have hvl : vs.length = i := by
        rcases hinv with ⟨h1, h2⟩ | ⟨q, m, h1, _, _, h4, h5⟩
        · rw [h1, h2]
          rfl
        · rw [(h5 0).len, List.length_cons, List.length_map]
          omega
      have hil : i < 160001 := by
        rw [List.length_map] at hi
        omega
      generalize hwo : (if i = 0 then none else pw (tl x)) = wo
      refine ⟨fun σ1 H4 => σ1 = [some (.str z'), sv', some (.ref p), some (.str x), some (kw0 (wo.map fun y => mw y.1)), wsv0] ∧ Same H3 H4, ?_, ?_⟩
      · refine ⟨_, rfl, Nat.zero_le _, fun e he => ?_⟩
        generalize hH4 : upd H3 e _ = H4
        obtain ⟨se, ee⟩ := freshF he hH4
        refine ⟨p, e, vs, rfl, rfl, SqL.of (se _ _ e1), SqL.of ee, _, rfl, ?_⟩
        by_cases hi0 : i = 0
        · have hv0 : vs = [] := List.length_eq_zero_iff.mp (by omega)
          rw [if_pos hi0] at hwo
          subst hwo
          refine ifF (by rw [hv0]; rfl) ?_
          exact ⟨rfl, se⟩
        · rw [if_neg hi0] at hwo
          have hv0 : vs.isEmpty = false := by
            cases vs with
            | nil => exact absurd hvl.symm hi0
            | cons => rfl
          refine ifT (by rw [hv0]; rfl) ?_
          refine fun c hc => ?_
          generalize hH5 : upd H4 c _ = H5
          obtain ⟨sc, ec⟩ := freshF hc hH5
          refine ⟨ec, vk3, rfl, (by decide), ?_⟩
          generalize hH6 : upd H5 c _ = H6
          have e6 : H6 c = some (.dK vk3) := by
            rw [← hH6, upd_same, vk3_merge]
          have s6 : Same H4 H6 := fun b o eb => by
            rw [← hH6, upd_ne (ne_of_none eb hc)]
            exact sc _ _ eb
          refine ⟨c, rfl, .inl ⟨_, .inl e6⟩, _, rfl, _, rfl, x, rfl, (by rw [sizeLine_eq]; omega), _, (by have q := DGet.k (k := Sum.inr (cutS x none (some 1))) e6; exact q), ?_⟩
          rw [pw_look, hwo]
          refine ⟨?_, se.trans s6⟩
          cases wo <;> rfl
      · rintro σ1 H4 ⟨rfl, s4⟩
        have bl0 : (ptS.length == 0) = false := by decide +kernel
        have tlp : tl ptS = [46] := by decide +kernel
        refine ⟨fun σ1 H5 => ∃ (W : Addr) (ts : List Str), σ1 = [some (.str z'), sv', some (.ref p), some (.str x), some (kw0 (wo.map fun y => mw y.1)), some (.ref W)] ∧ H5 W = some (.lst (ts.map V.str)) ∧ ts.map tl = spS 46 (blOf (tl x) wo) ∧ Same H4 H5, ?_, ?_⟩
        · cases wo with
          | none =>
            refine ⟨_, rfl, rfl, _, rfl, ifF rfl ⟨_, rfl, ⟨_, rfl⟩, x, ptS, rfl, rfl, bl0, (by rw [sizeLine_eq]; omega), fun W hW => ?_⟩⟩
            generalize hH5 : upd H4 W _ = H5
            obtain ⟨sW, eW⟩ := freshF hW hH5
            exact ⟨W, Txt.split x ptS, rfl, eW, split_spS tlp (by decide), sW⟩
          | some y =>
            obtain ⟨s0, b0⟩ := y
            have hy : pw (tl x) = some (s0, b0) := by
              by_cases hi0 : i = 0
              · rw [if_pos hi0] at hwo
                cases hwo
              · rw [if_neg hi0] at hwo
                exact hwo
            obtain ⟨ex, hs0⟩ := pw_some hy
            have ec : tl (cutS x (some 1) none) = b0 := by
              rw [cut_rest, ex]
              rfl
            have hcl : (cutS x (some 1) none).length ≤ 160000 := by
              have := TL.len_tl x
              rw [TL.len_tl, ec]
              rw [ex, List.length_cons] at this
              omega
            refine ⟨_, rfl, rfl, _, rfl, ifT rfl ⟨_, rfl, _, rfl, x, rfl, (by rw [sizeLine_eq]; omega), ⟨_, rfl⟩, cutS x (some 1) none, ptS, rfl, rfl, bl0, (by rw [sizeLine_eq]; omega), fun W hW => ?_⟩⟩
            generalize hH5 : upd H4 W _ = H5
            obtain ⟨sW, eW⟩ := freshF hW hH5
            refine ⟨W, Txt.split (cutS x (some 1) none) ptS, rfl, eW, ?_, sW⟩
            rw [split_spS tlp (by decide), ec]
            rfl
        · rintro σ1 H5 ⟨W, ts, rfl, eW, hts, s5⟩
          have s35 := s4.trans s5
          have s05 := s3.trans s35
          have ep5 := s35 _ _ e1
          have ea5 := s35 _ _ e2
          -- what is told if a piece is no pair, or begins with no sign
          have bad : (pairOf (blOf (tl x) wo) = none ∨ (i ≠ 0 ∧ wo = none)) → labOf (tl z) = none := fun hb => by
            rw [← hread]
            cases i with
            | zero =>
              rcases hb with hb | hb
              · rw [if_pos rfl] at hwo
                subst hwo
                exact rdL_bad0 hxP hb
              · exact absurd rfl hb.1
            | succ i =>
              rw [if_neg (Nat.succ_ne_zero i)] at hwo
              refine rdL_bad hxP ?_
              rw [rdM_one, hwo]
              cases wo with
              | none => rfl
              | some y =>
                obtain ⟨s0, b0⟩ := y
                rcases hb with hb | hb
                · have hb : pairOf b0 = none := hb
                  show (pairOf b0).map _ = none
                  rw [hb]
                  rfl
                · cases hb.2
          have out : labOf (tl z) = none → ∀ H', Same H5 H' → Q .non H' := fun e H' s' => by
            rw [e] at k
            exact k _ H' (s05.trans s') fun g => .non
          refine ⟨_, rfl, W, _, rfl, .inl (SqL.of eW), rfl, _, rfl, ?_⟩
          by_cases hl2 : ts.length = 2
          rotate_left
          · refine ifT ?_ ?_
            · rw [List.length_map]
              have : decide (V.int ((ts.length : Nat) : Int) = V.int 2) = false := by
                rw [decide_eq_false_iff_not]
                intro e
                injection e with e
                omega
              rw [this]
              rfl
            · exact out (bad (.inl (law_two (by rw [← hts, List.length_map]; exact hl2)))) H5 (Same.refl _)
          refine ifF ?_ ?_
          · rw [List.length_map, hl2]
            rfl
          match ts, hl2 with
          | [t0, t1], _ =>
            have hp2 := law_pair (p := blOf (tl x) wo) hts.symm
            have htl : t0.length ≤ 1000000 ∧ t1.length ≤ 1000000 := by
              have hbl : (blOf (tl x) wo).length ≤ 160000 := by
                have hxx := TL.len_tl x
                cases wo with
                | none =>
                  show (tl x).length ≤ _
                  omega
                | some y =>
                  obtain ⟨s0, b0⟩ := y
                  by_cases hi0 : i = 0
                  · rw [if_pos hi0] at hwo
                    cases hwo
                  · rw [if_neg hi0] at hwo
                    obtain ⟨ex, _⟩ := pw_some hwo
                    show b0.length ≤ _
                    rw [ex, List.length_cons] at hxx
                    omega
              obtain ⟨_, h2⟩ := spS_parts 46 (blOf (tl x) wo)
              have a0 := h2 (tl t0) (by rw [← hts]; exact List.mem_cons_self)
              have a1 := h2 (tl t1) (by rw [← hts]; exact List.mem_cons_of_mem _ List.mem_cons_self)
              rw [TL.len_tl, TL.len_tl]
              omega
            refine ⟨_, rfl, W, _, 0, _, rfl, rfl, SqL.of eW, rfl, t0, 5, rfl, htl.1, fun H6 s6 => ⟨_, rfl, ?_⟩⟩
            cases w0 : lw 5 (tl t0) with
            | false =>
              rw [if_neg (fun z => by rw [w0] at z; cases z.1)] at hp2
              refine ifT rfl ?_
              exact out (bad (.inl hp2)) H6 s6
            | true =>
              refine ifF rfl ?_
              refine ⟨_, rfl, W, _, 1, _, rfl, rfl, SqL.of (s6 _ _ eW), rfl, t1, 999, rfl, htl.2, fun H7 s7 => ⟨_, rfl, ?_⟩⟩
              have s57 := s6.trans s7
              cases w1 : lw 999 (tl t1) with
              | false =>
                rw [if_neg (fun z => by rw [w1] at z; cases z.2)] at hp2
                refine ifT rfl ?_
                exact out (bad (.inl hp2)) H7 s57
              | true =>
                refine ifF rfl ?_
                rw [if_pos ⟨w0, w1⟩] at hp2
                obtain ⟨i0, j0⟩ := lw_int w0
                obtain ⟨i1, j1⟩ := lw_int w1
                have s37 := s35.trans s57
                refine ⟨_, rfl, Nat.zero_le _, fun e he => ?_⟩
                generalize hH8 : upd H7 e _ = H8
                obtain ⟨se, ee⟩ := freshF he hH8
                have s38 := s37.trans se
                have eW8 := se _ _ (s57 _ _ eW)
                refine ⟨p, e, vs, rfl, rfl, SqL.of (s38 _ _ e1), SqL.of ee, _, rfl, ?_⟩
                by_cases hi0 : i = 0
                · have hv0 : vs = [] := List.length_eq_zero_iff.mp (by omega)
                  rw [if_pos hi0] at hwo
                  subst hwo
                  refine ifF (by rw [hv0]; rfl) ?_
                  refine ⟨_, rfl, .inl ⟨rfl, _, SqL.of (s38 _ _ e1)⟩, _, rfl, Nat.zero_le _, fun e' he' => ?_⟩
                  generalize hH9 : upd H8 e' _ = H9
                  obtain ⟨se', ee'⟩ := freshF he' hH9
                  have s39 := s38.trans se'
                  have eW9 := se' _ _ eW8
                  refine ⟨p, e', vs, rfl, rfl, SqL.of (s39 _ _ e1), SqL.of ee', _, rfl, ifT (by rw [hv0]; rfl) ?_⟩
                  refine ⟨_, rfl, W, _, 0, _, rfl, rfl, SqL.of eW9, rfl, t0, _, rfl, i0, j0, _, rfl, W, _, 1, _, rfl, rfl, SqL.of eW9, rfl, t1, _, rfl, i1, j1, (by show 2 ≤ sizeLine; decide), fun t ht => ?_⟩
                  generalize hH10 : upd H9 t _ = H10
                  obtain ⟨st, et⟩ := freshF ht hH10
                  have s310 := s39.trans st
                  refine ⟨_, _, _, rfl, rfl, s310 _ _ e1, (by rw [hv0]; decide), ?_⟩
                  refine ⟨_, _, _, _, rfl, upd_same, ?_, ?_, .inr ⟨(dv (tl t0), dv (tl t1)), [], by omega, ⟨tl x, by rw [← hi0]; exact hxP, hp2⟩, ?_, ?_, fun g => ?_⟩⟩
                  · intro b o eb
                    rw [upd_ne (ne_of_none eb hp)]
                    exact s310 _ _ (s3 _ _ eb)
                  · rw [upd_ne hpa.symm]
                    exact s310 _ _ e2
                  · rw [hi0]
                    rfl
                  · rw [hi0]
                    rfl
                  · rw [hv0]
                    exact .cons (.tup (by rw [upd_ne (fun z => by rw [z, s310 _ _ e1] at et; cases et)]; exact et) (by show 2 ≤ 1000; decide) (.cons (.int _) (.cons (.int _) .nil))) .nil
                · rw [if_neg hi0] at hwo
                  have hv0 : vs.isEmpty = false := by
                    cases vs with
                    | nil => exact absurd hvl.symm hi0
                    | cons => rfl
                  refine ifT (by rw [hv0]; rfl) ?_
                  refine ⟨_, rfl, ?_⟩
                  cases wo with
                  | none =>
                    refine ⟨rfl, _, rfl, ifT rfl ?_⟩
                    exact out (bad (.inr ⟨hi0, rfl⟩)) H8 (s57.trans se)
                  | some y =>
                    obtain ⟨s0, b0⟩ := y
                    obtain ⟨ex, hs0⟩ := pw_some hwo
                    refine ⟨rfl, _, rfl, ifF rfl ?_⟩
                    refine ⟨_, rfl, .inl ⟨rfl, _, SqL.of (s38 _ _ e1)⟩, _, rfl, Nat.zero_le _, fun e' he' => ?_⟩
                    generalize hH9 : upd H8 e' _ = H9
                    obtain ⟨se', ee'⟩ := freshF he' hH9
                    have s39 := s38.trans se'
                    have eW9 := se' _ _ eW8
                    refine ⟨p, e', vs, rfl, rfl, SqL.of (s39 _ _ e1), SqL.of ee', _, rfl, ifF (by rw [hv0]) ?_⟩
                    refine ⟨_, rfl, _, rfl, W, _, 0, _, rfl, rfl, SqL.of eW9, rfl, t0, _, rfl, i0, j0, _, rfl, W, _, 1, _, rfl, rfl, SqL.of eW9, rfl, t1, _, rfl, i1, j1, (by show 3 ≤ sizeLine; decide), fun t ht => ?_⟩
                    generalize hH10 : upd H9 t _ = H10
                    obtain ⟨st, et⟩ := freshF ht hH10
                    have s310 := s39.trans st
                    refine ⟨_, _, _, rfl, rfl, s310 _ _ e1, (by rw [hvl, sizeLine_eq]; omega), ?_⟩
                    rcases hinv with ⟨h1, _⟩ | ⟨q, m, h1, h2, h3, h4, h5⟩
                    · exact absurd h1 hi0
                    have kt : Kt H3 (upd H10 p (HO.lst (vs ++ [V.ref t]))) := fun b xs eb => Kt.put (s310 _ _ e1) _ _ (s310 _ _ eb)
                    have hd1 : (PS.drop 1)[i - 1]? = some (tl x) := by
                      rw [List.getElem?_drop, show 1 + (i - 1) = i by omega]
                      exact hxP
                    have et' : (PS.drop 1).take (i + 1 - 1) = (PS.drop 1).take (i - 1) ++ [s0 :: b0] := by
                      rw [show i + 1 - 1 = (i - 1) + 1 by omega, List.take_succ, hd1, ex]
                      rfl
                    refine ⟨_, _, _, _, rfl, upd_same, ?_, ?_, .inr ⟨q, m ++ [(s0, dv (tl t0), dv (tl t1))], by omega, h2, ?_, ?_, fun g => ?_⟩⟩
                    · intro b o eb
                      rw [upd_ne (ne_of_none eb hp)]
                      exact s310 _ _ (s3 _ _ eb)
                    · rw [upd_ne hpa.symm]
                      exact s310 _ _ e2
                    · rw [et']
                      exact rdM_snoc h3 hs0 hp2
                    · rw [List.length_append, h4]
                      show i - 1 + 1 = i + 1 - 1
                      omega
                    · rw [List.map_append, ← List.cons_append]
                      refine DVs.app (DVs.keepP (g := 0) kt (by
                        show (true && purs (m.map markD)) = true
                        rw [purs_map fun a _ => mark_pur a]
                        rfl) (h5 0)) ?_
                      refine .cons (.tup (by rw [upd_ne (fun z => by rw [z, s310 _ _ e1] at et; cases et)]; exact et) (by show 3 ≤ 1000; decide) (.cons (.str ?_) (.cons (.int _) (.cons (.int _) .nil)))) .nil
                      have h := mw_mem hs0
                      have q : ∀ w ∈ marks3, w.length ≤ 5 := by decide +kernel
                      have := q _ h
                      show (mw s0).length ≤ 10000
                      omega
    · rintro σ H3 ⟨pv0, wv0, wsv0, vs, rfl, e1, s3, e2, hinv⟩
      rw [List.length_map] at hinv
      have hPl : ms.length = PS.length := by rw [← hms, List.length_map]
      obtain ⟨p0, r0, hP0⟩ : ∃ p0 r0, PS = p0 :: r0 := by
        rw [← hPS]
        exact spS_ne 32 _
      rcases hinv with ⟨h1, _⟩ | ⟨q, m, h1, ⟨p1, h2, h2'⟩, h3, h4, h5⟩
      · rw [hPl, hP0] at h1
        cases h1
      rw [hP0] at h2
      obtain rfl := Option.some.inj h2
      have h3 : rdM r0 = some m := by
        rw [hPl, hP0] at h3
        have e : ((p0 :: r0).drop 1).take ((p0 :: r0).length - 1) = r0 := List.take_length
        rw [e] at h3
        exact h3
      rw [hP0, rdL_good h2' h3] at hread
      have hvl : vs.length = m.length + 1 := by
        rw [(h5 0).len, List.length_cons, List.length_map]
      refine ⟨_, rfl, p, _, rfl, .inl (SqL.of e1), _, _, rfl, rfl, _, rfl, ?_⟩
      by_cases h9 : m.length < 9
      · rw [if_pos h9] at hread
        rw [← hread] at k
        refine ifT (decide_eq_true (by rw [hvl]; omega)) ?_
        obtain ⟨y0, zs, rfl, _, _⟩ := (h5 0).inv
        have hv0 : ∀ g, DV g H3 y0 (pairD q) := fun g => by
          obtain ⟨y0', zs', e, h1, _⟩ := (h5 g).inv
          injection e with e1 e2
          rw [e1]
          exact h1
        have hvs : ∀ g, DVs g H3 zs (m.map markD) := fun g => by
          obtain ⟨y0', zs', e, _, h2⟩ := (h5 g).inv
          injection e with e1 e2
          rw [e2]
          exact h2
        refine ⟨_, rfl, p, _, 0, y0, rfl, rfl, SqL.of e1, atI_nat (j := 0) rfl, _, rfl, _, rfl, p, _, rfl, SqL.of e1, fun r hr' => ?_⟩
        rw [cut_1]
        generalize hH4 : upd H3 r _ = H4
        obtain ⟨sr, er⟩ := freshF hr' hH4
        refine ⟨r, zs, rfl, .inl ⟨SqL.of er, fun l hl => ?_⟩⟩
        generalize hH5 : upd H4 l _ = H5
        obtain ⟨sl, el⟩ := freshF hl hH5
        refine ⟨(by show 1 ≤ sizeLine; decide), fun t ht => ?_⟩
        generalize hH6 : upd H5 t _ = H6
        obtain ⟨st, et⟩ := freshF ht hH6
        have s36 := sr.trans (sl.trans st)
        obtain ⟨bp, vx, vy, rfl, ebp, hx1, hx2⟩ := ((hv0 0).keep (Kv.of s36)).tup2
        obtain rfl := hx1.int_inv
        obtain rfl := hx2.int_inv
        refine ⟨bp, t, _, _, rfl, rfl, SqT.of ebp, SqT.of et, (by show 2 + 1 ≤ sizeLine; decide), (fun z => by cases z), (fun _ z => by cases z), fun _ _ u hu => ?_⟩
        generalize hH7 : upd H6 u _ = H7
        obtain ⟨su, eu⟩ := freshF hu hH7
        refine k _ H7 (s3.trans (s36.trans su)) fun g => ?_
        exact .tup eu (by show 3 ≤ 1000; decide) (.cons (.int _) (.cons (.int _) (.cons (.tup ((st.trans su) _ _ el) (by show (m.map markD).length ≤ 1000; rw [List.length_map]; omega) ((hvs g).keep (Kv.of (s36.trans su)))) .nil)))
      · rw [if_neg h9] at hread
        rw [← hread] at k
        refine ifF (decide_eq_false (by rw [hvl]; omega)) ?_
        exact k _ H3 s3 fun g => .non
end
end K80

set_option Elab.async false
set_option linter.all false
set_option pp.maxSteps 900
set_option maxRecDepth 100000
set_option maxHeartbeats 4000000
namespace K80
open PySem PySem.Spec PyProof.Rows L2
open TL (tl)
abbrev sRP : Stmt := top 52
abbrev sLB : Stmt := top 53
def spRP : Sp := fun vs H Q _ => ∃ z : Str, vs = [.str z] ∧ z.length ≤ 10000 ∧ ∀ (v : V) (H' : Hp), Same H H' → (∀ g, DV g H' v (oD wordD (lawWord z))) → Q v H'
theorem cut_n {x : Str} {n : Nat} : tl (cutS x none (some (n : Int))) = (tl x).take n := by
  have hl : (tl x).length = x.length := (TL.len_tl x).symm
  show ((x.cps.toList.drop (HT.sIx x.length 0 none)).take (HT.sIx x.length x.length (some ((n : Nat) : Int)) - HT.sIx x.length 0 none)) = _
  rw [HT.sIx_nat, HT.sIx_none, List.drop_zero, Nat.sub_zero]
  show (tl x).take (min n x.length) = _
  by_cases h : n ≤ x.length
  · rw [Nat.min_eq_left h]
  · rw [Nat.min_eq_right (by omega), List.take_of_length_le (by omega), List.take_of_length_le (by omega)]
theorem cut_d {x : Str} {n : Nat} : tl (cutS x (some (n : Int)) none) = (tl x).drop n := by
  have hl : (tl x).length = x.length := (TL.len_tl x).symm
  show ((x.cps.toList.drop (HT.sIx x.length 0 (some ((n : Nat) : Int)))).take (HT.sIx x.length x.length none - HT.sIx x.length 0 (some ((n : Nat) : Int)))) = _
  rw [HT.sIx_nat, HT.sIx_none]
  show ((tl x).drop (min n x.length)).take (x.length - min n x.length) = _
  by_cases h : n ≤ x.length
  · rw [Nat.min_eq_left h]
    refine List.take_of_length_le ?_
    rw [List.length_drop]
    omega
  · rw [Nat.min_eq_right (by omega), List.drop_eq_nil_of_le (by omega), List.drop_eq_nil_of_le (by omega)]
    exact List.take_nil
section
variable {P : Program} {w : World} {K : PySem.W.Frag} {mg : Str → Option Value} {base : Heap}
theorem scRp : FnScope ["text", "word", "label"] ["text"] (defScope sRP) := ⟨rfl, rfl, rfl, by decide +kernel, rfl, by decide +kernel, by decide +kernel⟩
theorem ok_rp {f : Addr} {fd : FuncData} (F : Fun K "_law_read_pass" "_law_read_pass" sRP f fd) (T : Bn mg) (cRL : Cl P w K mg base "_law_read_label" ["text"] 2 spRL) : FnOk P w K mg base CX0 3 f fd ["text"] spRP := by
  obtain ⟨fRL, fdRL, GRL, mRL, kRL, bRL⟩ := cRL
  refine F.ok scRp (fun vs H Q E h => ?_) (fun cdv A outer s H vs Q E hr h => ?_)
  · obtain ⟨z, rfl, _⟩ := h
    rfl
  · obtain ⟨z, rfl, hz, k⟩ := h
    refine ⟨_, (pss_cons (ps_if (pt_cmpR op_in_seq (pv 0) (pe_lst (pa_cons pe_str (pa_cons pe_str (pa_cons pe_str (pa_cons pe_str (pa_cons pe_str (pa_cons pe_str pa_nil))))))) (by rfl)) (pss_one (ps_ret (pe_tup (pa_cons (pv 0) pa_nil)))) pss_nil)
      (pss_cons (ps_for PassesOwn.never rfl (pi_list (pe_lst (pa_cons pe_str (pa_cons pe_str pa_nil)))) (pg_name (i := 1) scRp.nd rfl (Or.inl rfl))
          (pss_one (ps_if (PW.pt (pw_and (pt_cmpR op_eq (pe_slice sl_str (pv 0) po_none (po_some (pe_op op_add (pe_callB call_len_str (by rfl) T.len PySem.boot_len (pa_cons (pv 1) pa_nil)) pe_int))) (pe_op op_add_str (pv 1) pe_str) (nomark _)) (pw_and1 (pt_cmpR op_notIn_sign pe_str (pv 0) (by rfl))))) (pss_cons (ps_set (i := 2) scRp.nd rfl (Or.inl rfl) (pe_call GRL hr (by rfl) mRL kRL bRL .nil pass0 (pa_cons (pe_slice sl_str (pv 0) (po_some (pe_op op_add (pe_callB call_len_str (by rfl) T.len PySem.boot_len (pa_cons (pv 1) pa_nil)) pe_int)) po_none) pa_nil)))
              (pss_one (ps_ret (pe_ifExp (pt_cmpR op_isN (pv 2) pe_non (nomark _)) pe_non (pe_tup (pa_cons (pv 1) (pa_cons (pv 2) pa_nil))))))) pss_nil)))
      (pss_one (ps_ret pe_non)))), ?_⟩
    have zl := TL.len_tl z
    refine ⟨_, rfl, (by show 6 ≤ sizeLine; decide), fun p hp => ?_⟩
    generalize hH1 : upd H p _ = H1
    obtain ⟨sp, ep⟩ := freshF hp hH1
    have fl : ∀ l : List Str, (l.map V.str).all flatV = true := fun l => by
      rw [List.all_eq_true]
      intro x hx
      obtain ⟨y, _, rfl⟩ := List.mem_map.mp hx
      rfl
    refine ⟨p, plain6.map V.str, rfl, .inl (SqL.of ep), rfl, fl _, _, rfl, ?_⟩
    rw [show (if false = true then !inV (V.str z) (plain6.map V.str) else inV (V.str z) (plain6.map V.str)) = decide (z ∈ plain6) from inV_str]
    by_cases h6 : z ∈ plain6
    · refine ifT (decide_eq_true h6) ?_
      refine ⟨_, rfl, (by show 1 ≤ sizeLine; decide), fun c hc => ?_⟩
      generalize hH2 : upd H1 c _ = H2
      obtain ⟨sc, ec⟩ := freshF hc hH2
      have e0 : lawWord z = some (.pl z) := if_pos h6
      rw [e0] at k
      exact k _ H2 (sp.trans sc) fun g => .tup ec (by show 1 ≤ 1000; decide) (.cons (.str hz) .nil)
    refine ifF (decide_eq_false h6) ?_
    refine ⟨(by show 2 ≤ sizeLine; decide), fun a ha => ?_⟩
    generalize hH2 : upd H1 a _ = H2
    obtain ⟨sa, ea⟩ := freshF ha hH2
    have s02 := sp.trans sa
    refine ⟨a, rfl, ⟨_, SqL.of ea⟩, for_list (K := K) (a := a) (xs := [V.str "lay", V.str "peel"]) (fun i σ H' => ∃ wv lv : Option V, σ = [some (.str z), wv, lv] ∧ (1 ≤ i → ¬ ((tl z).take 4 = tl ("lay:" : Str) ∧ 32 ∉ tl z)) ∧ (2 ≤ i → ¬ ((tl z).take 5 = tl ("peel:" : Str) ∧ 32 ∉ tl z)) ∧ Same H H' ∧ H' a = some (.lst [V.str "lay", V.str "peel"]))
      ⟨none, none, rfl, (fun h => absurd h (by decide)), (fun h => absurd h (by decide)), s02, ea⟩ (fun i σ H' _ ⟨_, _, _, _, _, _, e⟩ => SqL.of e) ?_ ?_⟩
    · rintro i x σ H3 hi ⟨wv, lv, rfl, hn1, hn2, s3, ea3⟩
      have hi2 : i = 0 ∨ i = 1 := by
        have := (List.getElem?_eq_some_iff.mp hi).1
        have : i < 2 := this
        omega
      rcases hi2 with rfl | rfl
      · obtain rfl : x = V.str "lay" := (Option.some.inj hi).symm
        have hcut : tl (cutS z none (some (((("lay" : Str).length : Nat) : Int) + 1))) = (tl z).take 4 := by
          rw [show (((("lay" : Str).length : Nat) : Int) + 1) = ((4 : Nat) : Int) by rw [show ("lay" : Str).length = 3 by decide +kernel]; rfl]
          exact cut_n
        have hpre : tl (("lay" : Str) ++ Str.ofString ":") = tl ("lay:" : Str) := by decide +kernel
        have heq : decide (V.str (cutS z none (some (((("lay" : Str).length : Nat) : Int) + 1))) = V.str (("lay" : Str) ++ Str.ofString ":")) = decide ((tl z).take 4 = tl ("lay:" : Str)) := by
          rw [dec_str, decide_eq_decide]
          constructor
          · intro e
            rw [← hcut, e, hpre]
          · intro e
            exact str_ext (by rw [hcut, e, hpre])
        have lw1 : (("lay" : Str).length : Nat) + (Str.ofString ":").length ≤ sizeLine := by decide +kernel
        have lw0 : ("lay" : Str).length ≤ sizeLine := by decide +kernel
        refine ⟨_, rfl, _, rfl, _, rfl, lw0, _, _, rfl, rfl, _, rfl, z, rfl, (by rw [sizeLine_eq]; omega), _, rfl, _, _, rfl, rfl, lw1, rfl, _, rfl, ?_⟩
        by_cases hp : (tl z).take 4 = tl ("lay:" : Str)
        rotate_left
        · refine ifF (by rw [heq]; exact decide_eq_false hp) ?_
          have hC : ¬ ((tl z).take 4 = tl ("lay:" : Str) ∧ 32 ∉ tl z) := fun q => hp q.1
          exact ⟨_, _, rfl, (fun _ => hC), (fun h => absurd h (by decide)), s3, ea3⟩
        refine ifT (by rw [heq]; exact decide_eq_true hp) ?_
        refine ⟨_, rfl, 32, z, congrArg V.str (by decide +kernel), rfl, _, rfl, ?_⟩
        by_cases h32 : 32 ∈ tl z
        · refine ifF (by rw [decide_eq_true (show 32 ∈ z.cps.toList from h32)]; rfl) ?_
          have hC : ¬ ((tl z).take 4 = tl ("lay:" : Str) ∧ 32 ∉ tl z) := fun q => q.2 h32
          exact ⟨_, _, rfl, (fun _ => hC), (fun h => absurd h (by decide)), s3, ea3⟩
        refine ifT (by rw [decide_eq_false (show ¬ 32 ∈ z.cps.toList from h32)]; rfl) ?_
        have hcut2 : tl (cutS z (some (((("lay" : Str).length : Nat) : Int) + 1)) none) = (tl z).drop 4 := by
          rw [show (((("lay" : Str).length : Nat) : Int) + 1) = ((4 : Nat) : Int) by rw [show ("lay" : Str).length = 3 by decide +kernel]; rfl]
          exact cut_d
        have hcl : (cutS z (some (((("lay" : Str).length : Nat) : Int) + 1)) none).length ≤ 20000 := by
          rw [TL.len_tl, hcut2, List.length_drop]
          omega
        refine ⟨_, rfl, _, rfl, _, rfl, lw0, _, _, rfl, rfl, _, rfl, z, rfl, (by rw [sizeLine_eq]; omega), _, rfl, hcl, fun v' H5 s5 hv => ?_⟩
        rw [hcut2] at hv
        have s35 := s3.trans s5
        have eW : lawWord z = (labOf ((tl z).drop 4)).map (PW.lb "lay") := by
          unfold lawWord
          rw [if_neg h6, if_pos ⟨hp, h32⟩]
        refine ⟨_, rfl, ?_⟩
        cases hl : labOf ((tl z).drop 4) with
        | none =>
          rw [hl] at hv eW
          cases hv 0
          refine ⟨rfl, _, rfl, ifT rfl ?_⟩
          have eW : lawWord z = none := eW
          rw [eW] at k
          exact k _ H5 s35 fun g => .non
        | some L =>
          rw [hl] at hv eW
          have eW : lawWord z = some (.lb "lay" L) := eW
          rw [eW] at k
          obtain ⟨b2, a2, xs, rfl, eb, _⟩ := lab_at (hv 0)
          refine ⟨rfl, _, rfl, ifF rfl ?_⟩
          refine ⟨_, rfl, _, rfl, (by show 2 ≤ sizeLine; decide), fun c hc => ?_⟩
          generalize hH6 : upd H5 c _ = H6
          obtain ⟨sc, ec⟩ := freshF hc hH6
          exact k _ H6 (s35.trans sc) fun g => .tup ec (by show 2 ≤ 1000; decide) (.cons (.str (by decide +kernel)) (.cons ((hv g).keep (Kv.of sc)) .nil))
      · obtain rfl : x = V.str "peel" := (Option.some.inj hi).symm
        have hcut : tl (cutS z none (some (((("peel" : Str).length : Nat) : Int) + 1))) = (tl z).take 5 := by
          rw [show (((("peel" : Str).length : Nat) : Int) + 1) = ((5 : Nat) : Int) by rw [show ("peel" : Str).length = 4 by decide +kernel]; rfl]
          exact cut_n
        have hpre : tl (("peel" : Str) ++ Str.ofString ":") = tl ("peel:" : Str) := by decide +kernel
        have heq : decide (V.str (cutS z none (some (((("peel" : Str).length : Nat) : Int) + 1))) = V.str (("peel" : Str) ++ Str.ofString ":")) = decide ((tl z).take 5 = tl ("peel:" : Str)) := by
          rw [dec_str, decide_eq_decide]
          constructor
          · intro e
            rw [← hcut, e, hpre]
          · intro e
            exact str_ext (by rw [hcut, e, hpre])
        have lw1 : (("peel" : Str).length : Nat) + (Str.ofString ":").length ≤ sizeLine := by decide +kernel
        have lw0 : ("peel" : Str).length ≤ sizeLine := by decide +kernel
        refine ⟨_, rfl, _, rfl, _, rfl, lw0, _, _, rfl, rfl, _, rfl, z, rfl, (by rw [sizeLine_eq]; omega), _, rfl, _, _, rfl, rfl, lw1, rfl, _, rfl, ?_⟩
        by_cases hp : (tl z).take 5 = tl ("peel:" : Str)
        rotate_left
        · refine ifF (by rw [heq]; exact decide_eq_false hp) ?_
          have hC : ¬ ((tl z).take 5 = tl ("peel:" : Str) ∧ 32 ∉ tl z) := fun q => hp q.1
          exact ⟨_, _, rfl, (fun _ => hn1 (by decide)), (fun _ => hC), s3, ea3⟩
        refine ifT (by rw [heq]; exact decide_eq_true hp) ?_
        refine ⟨_, rfl, 32, z, congrArg V.str (by decide +kernel), rfl, _, rfl, ?_⟩
        by_cases h32 : 32 ∈ tl z
        · refine ifF (by rw [decide_eq_true (show 32 ∈ z.cps.toList from h32)]; rfl) ?_
          have hC : ¬ ((tl z).take 5 = tl ("peel:" : Str) ∧ 32 ∉ tl z) := fun q => q.2 h32
          exact ⟨_, _, rfl, (fun _ => hn1 (by decide)), (fun _ => hC), s3, ea3⟩
        refine ifT (by rw [decide_eq_false (show ¬ 32 ∈ z.cps.toList from h32)]; rfl) ?_
        have hcut2 : tl (cutS z (some (((("peel" : Str).length : Nat) : Int) + 1)) none) = (tl z).drop 5 := by
          rw [show (((("peel" : Str).length : Nat) : Int) + 1) = ((5 : Nat) : Int) by rw [show ("peel" : Str).length = 4 by decide +kernel]; rfl]
          exact cut_d
        have hcl : (cutS z (some (((("peel" : Str).length : Nat) : Int) + 1)) none).length ≤ 20000 := by
          rw [TL.len_tl, hcut2, List.length_drop]
          omega
        refine ⟨_, rfl, _, rfl, _, rfl, lw0, _, _, rfl, rfl, _, rfl, z, rfl, (by rw [sizeLine_eq]; omega), _, rfl, hcl, fun v' H5 s5 hv => ?_⟩
        rw [hcut2] at hv
        have s35 := s3.trans s5
        have eW : lawWord z = (labOf ((tl z).drop 5)).map (PW.lb "peel") := by
          unfold lawWord
          rw [if_neg h6, if_neg (hn1 (by decide)), if_pos ⟨hp, h32⟩]
        refine ⟨_, rfl, ?_⟩
        cases hl : labOf ((tl z).drop 5) with
        | none =>
          rw [hl] at hv eW
          cases hv 0
          refine ⟨rfl, _, rfl, ifT rfl ?_⟩
          have eW : lawWord z = none := eW
          rw [eW] at k
          exact k _ H5 s35 fun g => .non
        | some L =>
          rw [hl] at hv eW
          have eW : lawWord z = some (.lb "peel" L) := eW
          rw [eW] at k
          obtain ⟨b2, a2, xs, rfl, eb, _⟩ := lab_at (hv 0)
          refine ⟨rfl, _, rfl, ifF rfl ?_⟩
          refine ⟨_, rfl, _, rfl, (by show 2 ≤ sizeLine; decide), fun c hc => ?_⟩
          generalize hH6 : upd H5 c _ = H6
          obtain ⟨sc, ec⟩ := freshF hc hH6
          exact k _ H6 (s35.trans sc) fun g => .tup ec (by show 2 ≤ 1000; decide) (.cons (.str (by decide +kernel)) (.cons ((hv g).keep (Kv.of sc)) .nil))
    · rintro σ H3 ⟨wv, lv, rfl, hn1, hn2, s3, _⟩
      have e0 : lawWord z = none := by
        unfold lawWord
        rw [if_neg h6, if_neg (hn1 (by decide)), if_neg (hn2 (by decide))]
      rw [e0] at k
      exact k _ H3 s3 fun g => .non
end
end K80

set_option Elab.async false
set_option linter.all false
set_option pp.maxSteps 900
set_option maxRecDepth 100000
set_option maxHeartbeats 4000000
namespace K80
open PySem PySem.Spec PyProof.Rows L2
open TL (tl)
def spLB : Sp := fun vs H Q _ => ∃ (d g c : Addr) (n : Nat) (z : Str), vs = [.ref d, .str z] ∧ StA H d g c n ∧ n ≤ 900000000 ∧ z.length ≤ 8000 ∧
  ∀ (z' : Str) (H' : Hp), z'.length ≤ z.length + 12 → StA H' d g c (n + 3) → Kp d g H H' → Q (.str z') H'
def sg15 : List Str := ["@", "<", ">", ".", "0", "9", " ", ":", "a", "", "-", "5", "lay:", "@0.1", "@5.999<1.2"]
theorem sg15_len : ∀ x ∈ sg15, x.length ≤ 11 := by decide +kernel
section
variable {P : Program} {w : World} {K : PySem.W.Frag} {mg : Str → Option Value} {base : Heap}
theorem scLb : FnScope ["state", "text", "sign", "at"] ["state", "text"] (defScope sLB) := ⟨rfl, rfl, rfl, by decide +kernel, rfl, by decide +kernel, by decide +kernel⟩
theorem ok_lb {f : Addr} {fd : FuncData} (F : Fun K "_law_bent" "_law_bent" sLB f fd) (T : Bn mg) (cD : Cl P w K mg base "_law_draw" ["state", "room"] 2 spDrw) (cP : Cl P w K mg base "_law_pick" ["state", "some"] 3 spPck) : FnOk P w K mg base CX0 4 f fd ["state", "text"] spLB := by
  obtain ⟨fD, fdD, GD, mD, kD, bD⟩ := cD
  obtain ⟨fP, fdP, GP, mP, kP, bP⟩ := cP
  refine F.ok scLb (fun vs H Q E h => ?_) (fun cdv A outer s H vs Q E hr h => ?_)
  · obtain ⟨d, g, c, n, z, rfl, _⟩ := h
    rfl
  · obtain ⟨d, g, c, n, z, rfl, S, hn, hz, k⟩ := h
    have hr2 : Room 2 _ := hr.mono (by decide)
    have hr3 : Room 3 _ := hr.mono (by decide)
    refine ⟨_, (pss_cons (ps_set (i := 2) scLb.nd rfl (Or.inl rfl) (pe_call GP hr3 (by rfl) mP kP bP .nil pass0 (pa_cons (pv 0) (pa_cons (pe_lst (pa_cons pe_str (pa_cons pe_str (pa_cons pe_str (pa_cons pe_str (pa_cons pe_str (pa_cons pe_str (pa_cons pe_str (pa_cons pe_str (pa_cons pe_str (pa_cons pe_str (pa_cons pe_str (pa_cons pe_str (pa_cons pe_str (pa_cons pe_str (pa_cons pe_str pa_nil)))))))))))))))) pa_nil))))
      (pss_cons (ps_set (i := 3) scLb.nd rfl (Or.inl rfl) (pe_call GD hr2 (by rfl) mD kD bD .nil pass0 (pa_cons (pv 0) (pa_cons (pe_op op_add (pe_callB call_len_str (by rfl) T.len PySem.boot_len (pa_cons (pv 1) pa_nil)) pe_int) pa_nil))))
      (pss_one (ps_ret (pe_call GP hr3 (by rfl) mP kP bP .nil pass0 (pa_cons (pv 0) (pa_cons (pe_lst (pa_cons (pe_op op_add_str (pe_op op_add_str (pe_slice sl_str (pv 1) po_none (po_some (pv 3))) (pv 2)) (pe_slice sl_str (pv 1) (po_some (pe_op op_add (pv 3) pe_int)) po_none)) (pa_cons (pe_op op_add_str (pe_op op_add_str (pe_slice sl_str (pv 1) po_none (po_some (pv 3))) (pv 2)) (pe_slice sl_str (pv 1) (po_some (pv 3)) po_none)) (pa_cons (pv 1) pa_nil)))) pa_nil))))))), ?_⟩
    have zl := TL.len_tl z
    refine ⟨_, rfl, (by show 15 ≤ sizeLine; decide), fun q1 hq1 => ?_⟩
    generalize hH1 : upd H q1 _ = H1
    obtain ⟨sq1, eq1⟩ := freshF hq1 hH1
    have S1 := S.keep sq1
    refine ⟨d, g, c, q1, _, _, rfl, S1, by omega, eq1, (S.free hq1).2.1, by simp, (by show 15 ≤ 1000000; decide), fun v H2 hv S2 kp2 => ?_⟩
    obtain ⟨sg, rfl, hsg⟩ : ∃ sg : Str, v = .str sg ∧ sg ∈ sg15 := by
      obtain ⟨x, hx, rfl⟩ := List.mem_map.mp (show v ∈ sg15.map V.str from hv)
      exact ⟨x, rfl, hx⟩
    have hs := sg15_len _ hsg
    refine ⟨_, rfl, _, rfl, z, rfl, (by rw [sizeLine_eq]; omega), _, _, rfl, rfl, d, g, c, n + 1, _, rfl, S2, by omega, ?_, ?_, fun u H3 u0 u1 S3 kp3 => ?_⟩
    · omega
    · omega
    obtain ⟨j, rfl⟩ : ∃ j : Nat, u = (j : Nat) := ⟨u.toNat, by rw [Int.toNat_of_nonneg u0]⟩
    have h1 : tl (cutS z none (some (j : Int))) = (tl z).take j := cut_n
    have h2 : tl (cutS z (some ((j : Int) + 1)) none) = (tl z).drop (j + 1) := cut_d (n := j + 1)
    have h3 : tl (cutS z (some (j : Int)) none) = (tl z).drop j := cut_d
    have l1 : (cutS z none (some (j : Int))).length ≤ j := by rw [TL.len_tl, h1]; exact List.length_take_le _ _
    have l2 : (cutS z (some ((j : Int) + 1)) none).length ≤ z.length - j := by rw [TL.len_tl, h2, List.length_drop, zl]; omega
    have l3 : (cutS z (some (j : Int)) none).length ≤ z.length - j := by rw [TL.len_tl, h3, List.length_drop, zl]; omega
    have bz : z.length ≤ sizeLine := by rw [sizeLine_eq]; omega
    refine ⟨_, rfl, _, rfl, _, rfl, _, rfl, z, rfl, bz, _, rfl, _, _, rfl, rfl, (by rw [sizeLine_eq]; omega), _, rfl, _, rfl, _, _, rfl, rfl, _, rfl, z, rfl, bz, _, _, rfl, rfl, (by rw [app_len, sizeLine_eq]; omega), ?_⟩
    refine ⟨_, rfl, _, rfl, _, rfl, z, rfl, bz, _, rfl, _, _, rfl, rfl, (by rw [sizeLine_eq]; omega), _, rfl, _, rfl, _, rfl, z, rfl, bz, _, _, rfl, rfl, (by rw [app_len, sizeLine_eq]; omega), ?_⟩
    refine ⟨_, rfl, (by show 3 ≤ sizeLine; decide), fun q2 hq2 => ?_⟩
    generalize hH4 : upd H3 q2 _ = H4
    obtain ⟨sq2, eq2⟩ := freshF hq2 hH4
    have S4 := S3.keep sq2
    refine ⟨d, g, c, q2, _, _, rfl, S4, by omega, eq2, (S3.free hq2).2.1, by simp, (by show 3 ≤ 1000000; decide), fun v H5 hv S5 kp5 => ?_⟩
    obtain ⟨z', rfl, hz'⟩ : ∃ z' : Str, v = .str z' ∧ z'.length ≤ z.length + 12 := by
      simp only [List.mem_cons, List.not_mem_nil, or_false] at hv
      rcases hv with rfl | rfl | rfl
      · exact ⟨_, rfl, by rw [app_len, app_len]; omega⟩
      · exact ⟨_, rfl, by rw [app_len, app_len]; omega⟩
      · exact ⟨_, rfl, by omega⟩
    exact k z' H5 hz' (S5.mono (by omega)) ((Kp.of sq1).trans (kp2.trans (kp3.trans ((Kp.of sq2).trans kp5))))
end
end K80

set_option Elab.async false
set_option linter.all false
set_option pp.maxSteps 900
set_option maxRecDepth 100000
set_option maxHeartbeats 8000000
namespace K80
open PySem PySem.Spec PyProof.Rows L2
open LamX (GivesTo CodeO Tabs TabS TabB tLam pe_lamcall lamCx lamEnv lamS_by ExtN)
open TL (tl)
abbrev sLR : Stmt := top 54
abbrev sPR : Stmt := top 55
abbrev sLaw : Stmt := top 56
abbrev qLR : Str := ("_law_labels_right" : Str) ++ ".<locals>." ++ "<lambda>"
abbrev qPR : Str := ("_law_passes_right" : Str) ++ ".<locals>." ++ "<lambda>"
abbrev tbs (T1 T2 : Addr) : List (Addr × Str) := [(T1, qLR), (T2, qPR)]
theorem tbs_1 {T1 T2 : Addr} (hne : T1 ≠ T2) : ∀ p ∈ tbs T1 T2, p.1 = T1 → p.2 = qLR := fun p hp e => by
  rcases List.mem_cons.mp hp with rfl | hp
  · rfl
  · rw [List.mem_singleton.mp hp] at e
    exact absurd e.symm hne
theorem tbs_2 {T1 T2 : Addr} (hne : T1 ≠ T2) : ∀ p ∈ tbs T1 T2, p.1 = T2 → p.2 = qPR := fun p hp e => by
  rcases List.mem_cons.mp hp with rfl | hp
  · exact absurd e hne
  · rw [List.mem_singleton.mp hp]
/-! ### a kept error without a dict -/
def rIsH0 (K : PySem.W.Frag) (D : Addr) : List V → Hp → VK → Prop := fun xs H Q => ∃ (a : Addr) (c : V) (cv : Value) (b : Bool), xs = [.ref a, c] ∧ (∀ u, RelV c u → u = cv) ∧ H a = some (exh a (.ref D) none) ∧
  PySem.W.kitOne K (.ref D) cv = some b ∧ Q (.bl b) H
theorem call_isH0 {X : Cx} {D : Addr} (C : ExcC X.K D) : CallR X (.builtin "isinstance") (rIsH0 X.K D) := by
  intro pins s σ H xs us Q I r h
  obtain ⟨a, c, cv, b, rfl, hcv, h1, e, q⟩ := h
  obtain ⟨u1, u2, rfl, r1, r2⟩ := vals2 r
  cases r1
  have ec := hcv _ r2
  subst ec
  obtain ⟨oe, vs, ha, hz, hd⟩ := exh_at I.hok h1
  have J : PySem.W.InstAt s.heap a oe D none := ⟨ha, hz.1, by unfold PySem.W.notCls; rw [hd] <;> rfl, by rw [hz.2]; trivial⟩
  have hcl : (PySem.W.clsIn X.K D).isSome = true := by
    obtain ⟨cd, hc, _⟩ := PySem.W.any_some C.hd
    rw [hc]
    rfl
  exact PySem.W.kia_one (PySem.W.kitx_exc hcl C.hg C.hk C.hs C.ha C.hn C.ht C.hm) I.kIn J e (fun z => nomatch z) fun tk => ⟨.bl b, H, I.kept (t' := tk) fun _ _ z => z, rfl, q⟩
theorem kit_self {K : PySem.W.Frag} {S : Addr} : PySem.W.kitOne K (.ref S) (.ref S) = some true := by
  unfold PySem.W.kitOne
  rw [if_pos (beq_self_eq_true _)]
theorem Kv.extN {g : Addr} {H H' : Hp} (k : ExtN H H') : Kv g H H' := ⟨fun b xs e _ => k _ _ e (fun _ z => by cases z), fun b xs e => k _ _ e (fun _ z => by cases z), fun b e => k _ _ e (fun _ z => by cases z)⟩
theorem StA.extN {H H' : Hp} {d g c : Addr} {n : Nat} (S : StA H d g c n) (k : ExtN H H') : StA H' d g c n := by
  obtain ⟨r, tt, gs, cs, S⟩ := S
  exact ⟨r, tt, gs, cs, { S with dk := k _ _ S.dk (fun _ z => by cases z), gl := k _ _ S.gl (fun _ z => by cases z), cl := k _ _ S.cl (fun _ z => by cases z) }⟩
theorem tabs_but {T : List (Addr × Str)} {H H' : Hp} (t : Tabs T H) (k : ∀ b o, H b = some o → (∀ kv, o ≠ .dK kv) → (∀ xs, o ≠ .lst xs) → H' b = some o) : Tabs T H' := fun p hp => by
  obtain ⟨ps, h1, h2, h3⟩ := t p hp
  refine ⟨ps, k _ _ h1 (fun _ z => by cases z) (fun _ z => by cases z), h2, fun pos cv hc => ?_⟩
  obtain ⟨c', e1, e2⟩ := h3 pos cv hc
  exact ⟨c', e1, k _ _ e2 (fun kv z => by unfold CodeO at z; cases z) (fun xs z => by unfold CodeO at z; cases z)⟩
theorem tabs_kp {T : List (Addr × Str)} {H H' : Hp} {d g c : Addr} {n : Nat} (t : Tabs T H) (S : StA H d g c n) (k : Kp d g H H') : Tabs T H' := by
  obtain ⟨r, tt, gs, cs, S⟩ := S
  refine tabs_but t fun b o e n1 n2 => k b o e (fun z => ?_) (fun z => ?_)
  · rw [z] at e
    exact n1 _ (Option.some.inj (e.symm.trans S.dk))
  · rw [z] at e
    exact n2 _ (Option.some.inj (e.symm.trans S.gl))
theorem DVs.pick {g : Addr} {H : Hp} {v : V} : ∀ {xs : List V} {ds : List Dt}, DVs g H xs ds → v ∈ xs → ∃ d, d ∈ ds ∧ DV g H v d
  | _, _, .nil, h => by cases h
  | _, _, .cons (v := x) (vs := xs) (d := d) h r, m => by
    rcases List.mem_cons.mp m with rfl | m
    · exact ⟨d, List.mem_cons_self, h⟩
    · obtain ⟨d', h1, h2⟩ := r.pick m
      exact ⟨d', List.mem_cons_of_mem _ h1, h2⟩
/-- a def that is called with keywords too -/
def ClK (CX : CXT) (P : Program) (w : World) (K : PySem.W.Frag) (mg : Str → Option Value) (base : Heap) (x : Str) (p : Str) (k : Nat) (sp : Sp) : Prop :=
  ∃ f fd, FnOk P w K mg base CX k f fd [p] sp ∧ mg x = some (.ref f) ∧ PySem.W.keepIn K (.ref f) = true ∧ L2.Binds K fd [p] [] ∧ KBinds K fd [p] [p] (fun us ws => us ++ ws) (fun us ws => us ++ ws)
/-- the errors that the law keeps -/
structure Ek (K : PySem.W.Frag) (mg : Str → Option Value) (x : Str) (CE C : Addr) : Prop where
  m : mg x = some (.ref C)
  exm : PySem.W.exmOne K (.ref C) (.ref CE) = some true
  exc : ExcC K C
structure MgC (mg : Str → Option Value) (K : PySem.W.Frag) (CE fCgt : Addr) : Prop where
  cgt : mg "_law_caught" = some (.ref fCgt)
  kcgt : PySem.W.keepIn K (.ref fCgt) = true
  ce : mg "ClockError" = some (.ref CE)
def MR (C1 T1 T2 d g c : Addr) (n : Nat) (v : V) (L : Lab) (z : Str) (v6 : V) : L2.St → Hp → Prop := fun σ H' => ∃ r : V, σ = [some (.ref d), some v, some (.str (labT L)), some (.str z), some v6, some r, none, none] ∧ StA H' d g c (n + 43) ∧ Tabs (tbs T1 T2) H' ∧ (∀ g', DV g' H' v (labD L)) ∧
  (∀ g', DV g' H' v6 (oD labD (labOf (tl z)))) ∧ ((∃ L', labOf (tl z) = some L' ∧ r = .non) ∨ (labOf (tl z) = none ∧ ∃ a : Addr, r = .ref a ∧ H' a = some (exh a (.ref C1) none)))
def spR (T1 T2 : Addr) : Sp := fun vs H Q _ => ∃ (d g c : Addr) (n : Nat), vs = [.ref d] ∧ StA H d g c n ∧ n ≤ 800000000 ∧ Tabs (tbs T1 T2) H ∧ ∀ H', StA H' d g c (n + 10000) → Tabs (tbs T1 T2) H' → Q (.bl true) H'
section
variable {P : Program} {w : World} {K : PySem.W.Frag} {mg : Str → Option Value} {base : Heap}
theorem scLr : FnScope ["state", "label", "text", "other", "due", "raised", "odd", "bad"] ["state"] (defScope sLR) := ⟨rfl, rfl, rfl, by decide +kernel, rfl, by decide +kernel, by decide +kernel⟩
theorem ok_lr {f cR T1 T2 CE C1 C2 fCgt : Addr} {oc kV doc pm ct : Value} {od an : Option Addr} {sl : Array (Option Value)}
    {ocg kVg docg pmg cdg ctg : Value} {odg ang : Option Addr} {slg : Array (Option Value)}
    (lk : K.lookup f = some ⟨oc, od, .func (PySem.W.fnOf "_law_labels_right" "_law_labels_right" (defArgs sLR) (defBody sLR) (defScope sLR) .none kV doc pm an (.ref cR) ct), sl⟩) (hcd : PySem.W.codeIn K (.ref cR) "_law_labels_right" = true)
    (lkg : K.lookup fCgt = some ⟨ocg, odg, .func (PySem.W.fnOf "_law_caught" "_law_caught" (defArgs sCgt) (defBody sCgt) (defScope sCgt) .none kVg docg pmg ang cdg ctg), slg⟩) (hcg : PySem.W.codeIn K cdg "_law_caught" = true)
    (bCgt : L2.Binds K (PySem.W.fnOf "_law_caught" "_law_caught" (defArgs sCgt) (defBody sCgt) (defScope sCgt) .none kVg docg pmg ang cdg ctg) ["action"] [])
    (B : Bn mg) (T : MgC mg K CE fCgt) (E1 : Ek K mg "BadLabelText" CE C1) (E2 : Ek K mg "BadLabel" CE C2) (TB : TabB base mg cR T1) (hne : T1 ≠ T2)
    (cLL : Cl P w K mg base "_law_label" ["state"] 5 spLL) (cTL : Cl P w K mg base "_law_told_label" ["label"] 1 spTL)
    (cLX : ClK (L2.CX P w) P w K mg base "label_text" "label" 6 (spLX C2)) (cLO : ClK (L2.CX P w) P w K mg base "label_of" "text" 4 (spLO C1))
    (cLB : Cl P w K mg base "_law_bent" ["state", "text"] 4 spLB) (cRL : Cl P w K mg base "_law_read_label" ["text"] 2 spRL) (cP : Cl P w K mg base "_law_pick" ["state", "some"] 3 spPck) :
    FnOk P w K mg base CX0 9 f (PySem.W.fnOf "_law_labels_right" "_law_labels_right" (defArgs sLR) (defBody sLR) (defScope sLR) .none kV doc pm an (.ref cR) ct) ["state"] (spR T1 T2) := by
  obtain ⟨fLL, fdLL, GLL, mLL, kLL, bLL⟩ := cLL
  obtain ⟨fTL, fdTL, GTL, mTL, kTL, bTL⟩ := cTL
  obtain ⟨fLX, fdLX, GLX, mLX, kLX, bLX, hLX⟩ := cLX
  obtain ⟨fLO, fdLO, GLO, mLO, kLO, bLO, hLO⟩ := cLO
  obtain ⟨fLB, fdLB, GLB, mLB, kLB, bLB⟩ := cLB
  obtain ⟨fRL, fdRL, GRL, mRL, kRL, bRL⟩ := cRL
  obtain ⟨fP, fdP, GP, mP, kP, bP⟩ := cP
  refine fn_of lk hcd scLr (fun vs H Q E h => ?_) (fun A outer s H vs Q E hr h => ?_)
  · obtain ⟨d, g, c, n, rfl, _⟩ := h
    rfl
  · obtain ⟨d, g, c, n, rfl, S, hn, hT, k⟩ := h
    have hr1 : Room 1 _ := hr.mono (by decide)
    have hr2' : Room 2 _ := hr.mono (by decide)
    have hr3 : Room 3 _ := hr.mono (by decide)
    have hr4 : Room 4 _ := hr.mono (by decide)
    have hr5 : Room 5 _ := hr.mono (by decide)
    have hr6 : Room 6 _ := hr.mono (by decide)
    refine ⟨_, PSs.nox (pss_cons (ps_set (i := 1) scLr.nd rfl (Or.inl rfl) (pe_call GLL hr5 (by rfl) mLL kLL bLL .nil pass0 (pa_cons (pv 0) pa_nil)))
      (pss_cons (ps_set (i := 2) scLr.nd rfl (Or.inl rfl) (pe_call GTL hr1 (by rfl) mTL kTL bTL .nil pass0 (pa_cons (pv 1) pa_nil)))
      (pss_cons (ps_if (PW.pt (pw_or (pt_cmpR op_ne (pe_callK0 GLX hr6 (by rfl) mLX kLX hLX passL (pk_cons (pv 1) pk_nil)) (pv 2) (nomark _)) (pw_or1 (pt_cmpR (op_neD hr.units) (pe_callK0 GLO hr4 (by rfl) mLO kLO hLO passL (pk_cons (pv 2) pk_nil)) (pv 1) (nomark _))))) (pss_one (ps_ret pe_bl)) pss_nil)
      (pss_cons (ps_set (i := 3) scLr.nd rfl (Or.inr rfl) (pe_call GLB hr4 (by rfl) mLB kLB bLB .nil pass0 (pa_cons (pv 0) (pa_cons (pv 2) pa_nil))))
      (pss_cons (ps_set (i := 4) scLr.nd rfl (Or.inl rfl) (pe_call GRL hr2' (by rfl) mRL kRL bRL .nil pass0 (pa_cons (pv 3) pa_nil)))
      (pss_mid (ps_set (i := 5) scLr.nd rfl (Or.inl rfl) (pe_lamcall (k := 6) (by rfl) T.cgt T.kcgt lkg hcg bCgt scC rfl (Or.inl rfl) (caught_gives T.ce) TB rfl (List.mem_cons_self ..) (tbs_1 hne) hr (lamS_by (by show LamX.lamSB (defScope sLR) _ = true; decide +kernel)) rfl (fun _ _ _ _ _ => rfl)
              (fun A outer s H E f c' hr2 => pe_call GLO (hr2.mono (by decide)) (by rfl) mLO kLO bLO .nil (passes_call (takes_of rfl rfl rfl rfl) (fun _ _ _ _ h => h)) (pa_cons (pv 3) pa_nil))))
      (pss_mid (ps_if (PW.pt (pw_or (pt_cmpR op_ne (pe_cmpR op_isN (pv 5) pe_non (nomark _)) (pe_cmpR op_notN (pv 4) pe_non (nomark _)) (nomark _)) (pw_or1 (PW.pt (pw_and (pt_cmpR op_notN (pv 5) pe_non (nomark _)) (pw_and1 (pt_not (pt_val (pe_callB (call_isH0 E1.exc) (by rfl) B.isi (by decide +kernel) (pa_cons (pv 5) (pa_cons (pe_glob (v := .ref C1) (by rfl) E1.m rfl) pa_nil))))))))))) (pss_one (ps_ret pe_bl)) pss_nil)
      (pss_mid (ps_if (PW.pt (pw_and (pt_cmpR op_notN (pv 4) pe_non (nomark _)) (pw_and1 (pt_cmpR (op_neD hr.units) (pe_call GLO hr4 (by rfl) mLO kLO bLO .nil passL (pa_cons (pv 3) pa_nil)) (pv 4) (nomark _))))) (pss_one (ps_ret pe_bl)) pss_nil)
      (pss_cons (ps_set (i := 6) scLr.nd rfl (Or.inr rfl) (pe_call GP hr3 (by rfl) mP kP bP .nil pass0 (pa_cons (pv 0) (pa_cons (pe_lst (pa_cons pe_non (pa_cons pe_int (pa_cons (pe_tup (pa_cons (pv 2) pa_nil)) (pa_cons (pe_lst (pa_cons (pv 2) pa_nil)) (pa_cons pe_bl (pa_cons pe_str (pa_cons (pv 1) pa_nil)))))))) pa_nil))))
      (pss_cons (ps_if (pt_not (pt_val (pe_callB (call_isH0 E1.exc) (by rfl) B.isi (by decide +kernel) (pa_cons (pe_lamcall (k := 6) (by rfl) T.cgt T.kcgt lkg hcg bCgt scC rfl (Or.inl rfl) (caught_gives T.ce) TB rfl (List.mem_cons_self ..) (tbs_1 hne) hr (lamS_by (by show LamX.lamSB (defScope sLR) _ = true; decide +kernel)) rfl (fun _ _ _ _ _ => rfl)
              (fun A outer s H E f c' hr2 => pe_call GLO (hr2.mono (by decide)) (by rfl) mLO kLO bLO .nil (passes_call (takes_of rfl rfl rfl rfl) (fun _ _ _ _ h => h)) (pa_cons (pv 6) pa_nil))) (pa_cons (pe_glob (v := .ref C1) (by rfl) E1.m rfl) pa_nil))))) (pss_one (ps_ret pe_bl)) pss_nil)
      (pss_cons (ps_set (i := 7) scLr.nd rfl (Or.inr rfl) (pe_lst (pa_cons pe_non (pa_cons (pv 2) (pa_cons (pe_callTy call_list_of (by rfl) B.lst (by decide +kernel) (pa_cons (pv 1) pa_nil)) (pa_cons (pe_slice sl_tupA (pv 1) po_none (po_some pe_int)) (pa_cons (pe_tup (pa_cons pe_int (pa_cons pe_int (pa_cons (pe_tup pa_nil) pa_nil)))) (pa_cons (pe_tup (pa_cons pe_int (pa_cons pe_int (pa_cons (pe_tup pa_nil) pa_nil)))) (pa_cons (pe_tup (pa_cons pe_int (pa_cons (pe_un un_neg pe_int) (pa_cons (pe_tup pa_nil) pa_nil)))) (pa_cons (pe_tup (pa_cons pe_bl (pa_cons pe_int (pa_cons (pe_tup pa_nil) pa_nil)))) (pa_cons (pe_tup (pa_cons pe_int (pa_cons pe_int (pa_cons (pe_lst pa_nil) pa_nil)))) (pa_cons (pe_tup (pa_cons pe_int (pa_cons pe_int (pa_cons (pe_tup (pa_cons (pe_tup (pa_cons pe_str (pa_cons pe_int pa_nil))) pa_nil)) pa_nil)))) (pa_cons (pe_tup (pa_cons pe_int (pa_cons pe_int (pa_cons pe_non pa_nil)))) pa_nil)))))))))))))
      (pss_cons (ps_set (i := 7) scLr.nd rfl (Or.inr rfl) (pe_op op_cat (pv 7) (pe_lst (pa_cons (pe_tup (pa_cons pe_int (pa_cons pe_int (pa_cons (pe_tup (pa_cons (pe_tup (pa_cons pe_str (pa_cons pe_int (pa_cons pe_int pa_nil)))) pa_nil)) pa_nil)))) (pa_cons (pe_tup (pa_cons pe_int (pa_cons pe_int (pa_cons (pe_tup (pa_cons (pe_tup (pa_cons pe_str (pa_cons pe_int (pa_cons pe_int pa_nil)))) pa_nil)) pa_nil)))) (pa_cons (pe_tup (pa_cons pe_int (pa_cons pe_int (pa_cons (pe_tup (pa_cons (pe_tup (pa_cons pe_str (pa_cons pe_int (pa_cons pe_int pa_nil)))) pa_nil)) pa_nil)))) (pa_cons (pe_tup (pa_cons pe_int (pa_cons pe_int (pa_cons (pe_op op_repT (pe_tup (pa_cons (pe_tup (pa_cons pe_str (pa_cons pe_int (pa_cons pe_int pa_nil)))) pa_nil)) pe_int) pa_nil)))) (pa_cons (pe_tup (pa_cons pe_int (pa_cons pe_int (pa_cons (pe_tup (pa_cons (pe_lst (pa_cons pe_str (pa_cons pe_int (pa_cons pe_int pa_nil)))) pa_nil)) pa_nil)))) pa_nil))))))))
      (pss_cons (ps_set (i := 7) scLr.nd rfl (Or.inr rfl) (pe_call GP hr3 (by rfl) mP kP bP .nil pass0 (pa_cons (pv 0) (pa_cons (pv 7) pa_nil))))
      (pss_one (ps_ret (pe_callB (call_isH0 E2.exc) (by rfl) B.isi (by decide +kernel) (pa_cons (pe_lamcall (k := 6) (by rfl) T.cgt T.kcgt lkg hcg bCgt scC rfl (Or.inl rfl) (caught_gives T.ce) TB rfl (List.mem_cons_self ..) (tbs_1 hne) hr (lamS_by (by show LamX.lamSB (defScope sLR) _ = true; decide +kernel)) rfl (fun _ _ _ _ _ => rfl)
              (fun A outer s H E f c' hr2 => pe_call GLX (hr2.mono (by decide)) (by rfl) mLX kLX bLX .nil (passes_call (takes_of rfl rfl rfl rfl) (fun _ _ _ _ h => h)) (pa_cons (pv 7) pa_nil))) (pa_cons (pe_glob (v := .ref C2) (by rfl) E2.m rfl) pa_nil)))))))))))))))))), ?_⟩
    -- label
    refine ⟨_, rfl, d, g, c, n, rfl, S, by omega, fun v L H1 hok S1 kp1 hv => ?_⟩
    have X1 := tabs_kp hT S kp1
    have lp := lab_pur L
    have ld := lab_dep L
    obtain ⟨cb, cf⟩ := lab_ok hok
    have hll := (labT_len hok).1
    have hlab : labOf (tl (labT L)) = some L := lab_T hok
    have hsh := shaped_of lp (show dep (labD L) ≤ 64 by omega)
    -- text
    refine ⟨_, rfl, g, v, L, rfl, hv g, hok, fun H2 s2 => ?_⟩
    -- label_text(label=label) != text
    refine ⟨_, rfl, g, v, labD L, rfl, (hv g).keep (Kv.of s2), cf, .inl ⟨L, rfl, hok, fun H3 s3 => ?_⟩⟩
    refine ⟨_, rfl, rfl, _, rfl, ifF (by simp) ?_⟩
    -- label_of(text=text) != label
    refine ⟨_, rfl, g, _, .str (labT L), rfl, .str (by omega), fun L' h v2 H4 s4 hv2 => ?_, fun h => (by rw [show toLab (.str (labT L)) = some L from hlab] at h; cases h)⟩
    obtain rfl : L = L' := Option.some.inj (hlab.symm.trans h)
    have s24 := (s2.trans s3).trans s4
    refine ⟨_, rfl, _, _, dv_dp lp (hv2 g), dv_dp lp ((hv g).keep (Kv.of s24)), hsh, hsh, _, rfl, ?_⟩
    refine ifF (by rw [eqv_self lp]; rfl) ?_
    have S4 := S1.keep s24
    have X4 := X1.ext s24
    -- other
    refine ⟨_, rfl, _, rfl, d, g, c, n + 40, labT L, rfl, S4, by omega, by omega, fun z H5 hz S5 kp5 => ?_⟩
    have X5 := tabs_kp X4 S4 kp5
    have hv5 : ∀ g', DV g' H5 v (labD L) := fun g' => DV.keepP (g := 0) (Kt.kp S4 kp5) lp ((hv 0).keep (Kv.of s24))
    -- due
    refine ⟨_, rfl, z, rfl, by omega, fun v6 H6 s6 hv6 => ?_⟩
    have S6 := S5.keep s6
    have X6 := X5.ext s6
    -- raised
    refine ⟨MR C1 T1 T2 d g c n v L z v6, ?_, ?_⟩
    · refine ⟨X6, fun H7 e7 X7 => ?_⟩
      have S7 := S6.extN e7
      have hv7 : ∀ g', DV g' H7 v (labD L) := fun g' => ((hv5 g').keep (Kv.of s6)).keep (Kv.extN e7)
      have hv6' : ∀ g', DV g' H7 v6 (oD labD (labOf (tl z))) := fun g' => (hv6 g').keep (Kv.extN e7)
      refine ⟨_, rfl, g, _, .str z, rfl, .str (by omega), fun L' h v2 H8 s8 hv2 => ?_, fun h H8 s8 => ?_⟩
      · exact ⟨_, rfl, S7.keep s8, X7.ext s8, (fun g' => (hv7 g').keep (Kv.of s8)), (fun g' => (hv6' g').keep (Kv.of s8)), .inl ⟨L', h, rfl⟩⟩
      · refine ⟨true, E1.exm, fun _ a ha => ?_, fun z => nomatch z⟩
        generalize hH9 : upd H8 a _ = H9
        obtain ⟨sa, ea⟩ := freshF ha hH9
        have s79 := s8.trans sa
        exact ⟨_, rfl, S7.keep s79, X7.ext s79, (fun g' => (hv7 g').keep (Kv.of s79)), (fun g' => (hv6' g').keep (Kv.of s79)), .inr ⟨h, a, rfl, ea⟩⟩
    clear hv5 hv6 X6 S6 s6 H6
    rintro σ H6 ⟨r, rfl, S6, X6, hv5, hv6, hr6⟩
    refine ⟨MR C1 T1 T2 d g c n v L z v6, ?_, ?_⟩
    · rcases hr6 with ⟨L', h, rfl⟩ | ⟨h, a, rfl, ha⟩
      · have h6 := hv6 0
        rw [h] at h6
        obtain ⟨b6, a6, xs6, rfl, _⟩ := lab_at h6
        refine ⟨_, rfl, rfl, _, rfl, rfl, rfl, _, rfl, ifF rfl ?_⟩
        refine ⟨_, rfl, rfl, _, rfl, ifF rfl ?_⟩
        exact ⟨_, rfl, S6, X6, hv5, hv6, .inl ⟨L', h, rfl⟩⟩
      · have h6 := hv6 0
        rw [h] at h6
        cases h6
        refine ⟨_, rfl, rfl, _, rfl, rfl, rfl, _, rfl, ifF rfl ?_⟩
        refine ⟨_, rfl, rfl, _, rfl, ifT rfl ?_⟩
        refine ⟨_, rfl, a, _, _, true, rfl, (fun u h => h), ha, kit_self, _, rfl, ifF rfl ?_⟩
        exact ⟨_, rfl, S6, X6, hv5, hv6, .inr ⟨h, a, rfl, ha⟩⟩
    clear hv5 hv6 X6 S6 hr6 r H6
    rintro σ H6 ⟨r, rfl, S6, X6, hv5, hv6, hr6⟩
    refine ⟨MR C1 T1 T2 d g c n v L z v6, ?_, ?_⟩
    · rcases hr6 with ⟨L', h, rfl⟩ | ⟨h, a, rfl, ha⟩
      · have h6 := hv6 g
        rw [h] at h6
        obtain ⟨b6, a6, xs6, rfl, _⟩ := lab_at h6
        have lp' := lab_pur L'
        have ld' := lab_dep L'
        have hsh' := shaped_of lp' (show dep (labD L') ≤ 64 by omega)
        refine ⟨_, rfl, rfl, _, rfl, ifT rfl ?_⟩
        refine ⟨_, rfl, g, _, .str z, rfl, .str (by omega), fun L2 h2 v2 H7 s7 hv2 => ?_, fun h2 => (by rw [show toLab (.str z) = some L' from h] at h2; cases h2)⟩
        obtain rfl : L' = L2 := Option.some.inj (h.symm.trans h2)
        refine ⟨_, rfl, _, _, dv_dp lp' (hv2 g), dv_dp lp' (DV.keep (Kv.of s7) h6), hsh', hsh', _, rfl, ?_⟩
        refine ifF (by rw [eqv_self lp']; rfl) ?_
        exact ⟨_, rfl, S6.keep s7, X6.ext s7, (fun g' => (hv5 g').keep (Kv.of s7)), (fun g' => (hv6 g').keep (Kv.of s7)), .inl ⟨L', h, rfl⟩⟩
      · have h6 := hv6 0
        rw [h] at h6
        cases h6
        refine ⟨_, rfl, rfl, _, rfl, ifF rfl ?_⟩
        exact ⟨_, rfl, S6, X6, hv5, hv6, .inr ⟨h, a, rfl, ha⟩⟩
    clear hv6 X6 S6 hr6 hv5 r H6
    rintro σ H6 ⟨r, rfl, S6, X6, hv5, _⟩
    have htx : DV g H6 (.str (labT L)) (.str (labT L)) := .str (by omega)
    -- odd
    refine ⟨_, rfl, _, rfl, (by show 1 ≤ sizeLine; decide), fun po0 hpo0 => ?_⟩
    generalize hHo0 : upd H6 po0 _ = Ho0
    obtain ⟨so0, eo0⟩ := freshF hpo0 hHo0
    have to0 : Same H6 Ho0 := so0
    refine ⟨_, rfl, (by show 1 ≤ sizeLine; decide), fun po1 hpo1 => ?_⟩
    generalize hHo1 : upd Ho0 po1 _ = Ho1
    obtain ⟨so1, eo1⟩ := freshF hpo1 hHo1
    have to1 : Same H6 Ho1 := to0.trans so1
    have go1 := ((S6.keep to0).free hpo1).2.1
    refine ⟨_, rfl, (by show 7 ≤ sizeLine; decide), fun lo hpo2 => ?_⟩
    generalize hHo2 : upd Ho1 lo _ = Ho
    obtain ⟨so2, eo2⟩ := freshF hpo2 hHo2
    have to2 : Same H6 Ho := to1.trans so2
    have go2 := ((S6.keep to1).free hpo2).2.1
    have uo1 : Same Ho1 Ho := so2
    have uo0 : Same Ho0 Ho := so1.trans uo1
    have to := to2
    have dvo : DVs g Ho [V.non, V.int 0, V.ref po0, V.ref po1, V.bl true, V.str "", v] [Dt.non, Dt.int 0, Dt.tup [Dt.str (labT L)], Dt.lst [Dt.str (labT L)], Dt.bl true, Dt.str "", labD L] := (.cons .non (.cons (.int _) (.cons (.tup (uo0 _ _ eo0) (by show 1 ≤ 1000; decide) (.cons (htx.keep (Kv.of to2)) .nil)) (.cons (.lst (uo1 _ _ eo1) go1 (by show 1 ≤ 1000; decide) (.cons (htx.keep (Kv.of to2)) .nil)) (.cons (.bl _) (.cons (.str (by decide +kernel)) (.cons ((hv5 g).keep (Kv.of to2)) .nil)))))))
    have eo := eo2
    have hlo := hpo2
    have fo := (S6.keep to1).free hlo
    have no := to1.free hlo
    refine ⟨d, g, c, lo, _, _, rfl, S6.keep to, by omega, eo, fo.2.1, by simp, (by show 7 ≤ 1000000; decide), fun ov H7 hov S7 kp7 => ?_⟩
    obtain ⟨od, hod, ho⟩ := dvo.pick hov
    have kv7 : Kv g Ho H7 := Kv.kp (S6.keep to) kp7
    have ho := ho.keep kv7
    have nol : toLab od = none := by
      clear ho
      simp only [List.mem_cons, List.not_mem_nil, or_false] at hod
      rcases hod with rfl | rfl | rfl | rfl | rfl | rfl | rfl <;> first | rfl | decide +kernel
    have X7 := tabs_kp (X6.ext to) (S6.keep to) kp7
    have hv7 : ∀ g', DV g' H7 v (labD L) := fun g' => DV.keepP (g := 0) (Kt.kp (S6.keep to) kp7) lp ((hv5 0).keep (Kv.of to))
    refine ⟨X7, fun H8 e8 X8 => ?_⟩
    have S8 := S7.extN e8
    have ho := ho.keep (Kv.extN e8)
    refine ⟨_, rfl, g, ov, od, rfl, ho, (fun L' h => by rw [nol] at h; cases h), fun _ H9 s9 => ?_⟩
    refine ⟨true, E1.exm, fun _ a ha => ?_, fun z => nomatch z⟩
    generalize hHA : upd H9 a _ = HA
    obtain ⟨sa, ea⟩ := freshF ha hHA
    refine ⟨a, _, _, true, rfl, (fun u h => h), ea, kit_self, _, rfl, ifF rfl ?_⟩
    have s8A := s9.trans sa
    have SA := S8.keep s8A
    have XA := X8.ext s8A
    have hvA : ∀ g', DV g' HA v (labD L) := fun g' => ((hv7 g').keep (Kv.extN e8)).keep (Kv.of s8A)
    clear ho kv7 hv7 hv5 hov dvo
    -- bad
    obtain ⟨b0, a0, xs0, rfl, elb, ela, lx0, dx0⟩ := lab_at (hvA g)
    have dl : DVs g HA [V.int (L.1.1 : Nat), V.int (L.1.2 : Nat), V.ref a0] [Dt.int (L.1.1 : Nat), Dt.int (L.1.2 : Nat), Dt.tup (L.2.map markD)] := .cons (.int _) (.cons (.int _) (.cons (.tup ela (by rw [List.length_map]; have := hok.2.1; omega) dx0) .nil))
    have htx : DV g HA (.str (labT L)) (.str (labT L)) := .str (by omega)
    refine ⟨_, rfl, _, rfl, b0, _, rfl, .inr (SqT.of elb), fun pb0 hpb0 => ?_⟩
    generalize hHb0 : upd HA pb0 _ = Hb0
    obtain ⟨sb0, eb0⟩ := freshF hpb0 hHb0
    have tb0 : Same HA Hb0 := sb0
    have gb0 := (SA.free hpb0).2.1
    refine ⟨_, rfl, _, rfl, b0, _, rfl, SqT.of (tb0 _ _ elb), (fun q => absurd q (by show ¬ (HT.sIx 3 0 none = 0 ∧ HT.sIx 3 3 (some 2) = 3); decide +kernel)), fun _ => fun pb1 hpb1 => ?_⟩
    generalize hHb1 : upd Hb0 pb1 _ = Hb1
    obtain ⟨sb1, eb1⟩ := freshF hpb1 hHb1
    have tb1 : Same HA Hb1 := tb0.trans sb1
    refine ⟨(by show 0 ≤ sizeLine; decide), fun pb2 hpb2 => ?_⟩
    generalize hHb2 : upd Hb1 pb2 _ = Hb2
    obtain ⟨sb2, eb2⟩ := freshF hpb2 hHb2
    have tb2 : Same HA Hb2 := tb1.trans sb2
    refine ⟨(by show 3 ≤ sizeLine; decide), fun pb3 hpb3 => ?_⟩
    generalize hHb3 : upd Hb2 pb3 _ = Hb3
    obtain ⟨sb3, eb3⟩ := freshF hpb3 hHb3
    have tb3 : Same HA Hb3 := tb2.trans sb3
    refine ⟨(by show 0 ≤ sizeLine; decide), fun pb4 hpb4 => ?_⟩
    generalize hHb4 : upd Hb3 pb4 _ = Hb4
    obtain ⟨sb4, eb4⟩ := freshF hpb4 hHb4
    have tb4 : Same HA Hb4 := tb3.trans sb4
    refine ⟨(by show 3 ≤ sizeLine; decide), fun pb5 hpb5 => ?_⟩
    generalize hHb5 : upd Hb4 pb5 _ = Hb5
    obtain ⟨sb5, eb5⟩ := freshF hpb5 hHb5
    have tb5 : Same HA Hb5 := tb4.trans sb5
    refine ⟨_, rfl, (by show 0 ≤ sizeLine; decide), fun pb6 hpb6 => ?_⟩
    generalize hHb6 : upd Hb5 pb6 _ = Hb6
    obtain ⟨sb6, eb6⟩ := freshF hpb6 hHb6
    have tb6 : Same HA Hb6 := tb5.trans sb6
    refine ⟨(by show 3 ≤ sizeLine; decide), fun pb7 hpb7 => ?_⟩
    generalize hHb7 : upd Hb6 pb7 _ = Hb7
    obtain ⟨sb7, eb7⟩ := freshF hpb7 hHb7
    have tb7 : Same HA Hb7 := tb6.trans sb7
    refine ⟨(by show 0 ≤ sizeLine; decide), fun pb8 hpb8 => ?_⟩
    generalize hHb8 : upd Hb7 pb8 _ = Hb8
    obtain ⟨sb8, eb8⟩ := freshF hpb8 hHb8
    have tb8 : Same HA Hb8 := tb7.trans sb8
    refine ⟨(by show 3 ≤ sizeLine; decide), fun pb9 hpb9 => ?_⟩
    generalize hHb9 : upd Hb8 pb9 _ = Hb9
    obtain ⟨sb9, eb9⟩ := freshF hpb9 hHb9
    have tb9 : Same HA Hb9 := tb8.trans sb9
    refine ⟨(by show 0 ≤ sizeLine; decide), fun pb10 hpb10 => ?_⟩
    generalize hHb10 : upd Hb9 pb10 _ = Hb10
    obtain ⟨sb10, eb10⟩ := freshF hpb10 hHb10
    have tb10 : Same HA Hb10 := tb9.trans sb10
    have gb10 := ((SA.keep tb9).free hpb10).2.1
    refine ⟨(by show 3 ≤ sizeLine; decide), fun pb11 hpb11 => ?_⟩
    generalize hHb11 : upd Hb10 pb11 _ = Hb11
    obtain ⟨sb11, eb11⟩ := freshF hpb11 hHb11
    have tb11 : Same HA Hb11 := tb10.trans sb11
    refine ⟨(by show 2 ≤ sizeLine; decide), fun pb12 hpb12 => ?_⟩
    generalize hHb12 : upd Hb11 pb12 _ = Hb12
    obtain ⟨sb12, eb12⟩ := freshF hpb12 hHb12
    have tb12 : Same HA Hb12 := tb11.trans sb12
    refine ⟨(by show 1 ≤ sizeLine; decide), fun pb13 hpb13 => ?_⟩
    generalize hHb13 : upd Hb12 pb13 _ = Hb13
    obtain ⟨sb13, eb13⟩ := freshF hpb13 hHb13
    have tb13 : Same HA Hb13 := tb12.trans sb13
    refine ⟨(by show 3 ≤ sizeLine; decide), fun pb14 hpb14 => ?_⟩
    generalize hHb14 : upd Hb13 pb14 _ = Hb14
    obtain ⟨sb14, eb14⟩ := freshF hpb14 hHb14
    have tb14 : Same HA Hb14 := tb13.trans sb14
    refine ⟨(by show 3 ≤ sizeLine; decide), fun pb15 hpb15 => ?_⟩
    generalize hHb15 : upd Hb14 pb15 _ = Hb15
    obtain ⟨sb15, eb15⟩ := freshF hpb15 hHb15
    have tb15 : Same HA Hb15 := tb14.trans sb15
    refine ⟨(by show 11 ≤ sizeLine; decide), fun lb hpb16 => ?_⟩
    generalize hHb16 : upd Hb15 lb _ = Hb
    obtain ⟨sb16, eb16⟩ := freshF hpb16 hHb16
    have tb16 : Same HA Hb := tb15.trans sb16
    have gb16 := ((SA.keep tb15).free hpb16).2.1
    have ub15 : Same Hb15 Hb := sb16
    have ub14 : Same Hb14 Hb := sb15.trans ub15
    have ub13 : Same Hb13 Hb := sb14.trans ub14
    have ub12 : Same Hb12 Hb := sb13.trans ub13
    have ub11 : Same Hb11 Hb := sb12.trans ub12
    have ub10 : Same Hb10 Hb := sb11.trans ub11
    have ub9 : Same Hb9 Hb := sb10.trans ub10
    have ub8 : Same Hb8 Hb := sb9.trans ub9
    have ub7 : Same Hb7 Hb := sb8.trans ub8
    have ub6 : Same Hb6 Hb := sb7.trans ub7
    have ub5 : Same Hb5 Hb := sb6.trans ub6
    have ub4 : Same Hb4 Hb := sb5.trans ub5
    have ub3 : Same Hb3 Hb := sb4.trans ub4
    have ub2 : Same Hb2 Hb := sb3.trans ub3
    have ub1 : Same Hb1 Hb := sb2.trans ub2
    have ub0 : Same Hb0 Hb := sb1.trans ub1
    have tb := tb16
    have dvb : DVs g Hb [V.non, V.str (labT L), V.ref pb0, V.ref pb1, V.ref pb3, V.ref pb5, V.ref pb7, V.ref pb9, V.ref pb11, V.ref pb14, V.ref pb15] [Dt.non, Dt.str (labT L), Dt.lst [Dt.int (L.1.1 : Nat), Dt.int (L.1.2 : Nat), Dt.tup (L.2.map markD)], Dt.tup [Dt.int (L.1.1 : Nat), Dt.int (L.1.2 : Nat)], Dt.tup [Dt.int 6, Dt.int 0, Dt.tup []], Dt.tup [Dt.int 0, Dt.int 1000, Dt.tup []], Dt.tup [Dt.int 0, Dt.int (-1), Dt.tup []], Dt.tup [Dt.bl true, Dt.int 0, Dt.tup []], Dt.tup [Dt.int 0, Dt.int 0, Dt.lst []], Dt.tup [Dt.int 0, Dt.int 0, Dt.tup [Dt.tup [Dt.str "at", Dt.int 0]]], Dt.tup [Dt.int 0, Dt.int 0, Dt.non]] := (.cons .non (.cons (htx.keep (Kv.of tb16)) (.cons (.lst (ub0 _ _ eb0) gb0 (by show 3 ≤ 1000; decide) (dl.keep (Kv.of tb16))) (.cons (.tup (ub1 _ _ eb1) (by show 2 ≤ 1000; decide) (.cons (.int _) (.cons (.int _) .nil))) (.cons (.tup (ub3 _ _ eb3) (by show 3 ≤ 1000; decide) (.cons (.int _) (.cons (.int _) (.cons (.tup (ub2 _ _ eb2) (by show 0 ≤ 1000; decide) .nil) .nil)))) (.cons (.tup (ub5 _ _ eb5) (by show 3 ≤ 1000; decide) (.cons (.int _) (.cons (.int _) (.cons (.tup (ub4 _ _ eb4) (by show 0 ≤ 1000; decide) .nil) .nil)))) (.cons (.tup (ub7 _ _ eb7) (by show 3 ≤ 1000; decide) (.cons (.int _) (.cons (.int _) (.cons (.tup (ub6 _ _ eb6) (by show 0 ≤ 1000; decide) .nil) .nil)))) (.cons (.tup (ub9 _ _ eb9) (by show 3 ≤ 1000; decide) (.cons (.bl _) (.cons (.int _) (.cons (.tup (ub8 _ _ eb8) (by show 0 ≤ 1000; decide) .nil) .nil)))) (.cons (.tup (ub11 _ _ eb11) (by show 3 ≤ 1000; decide) (.cons (.int _) (.cons (.int _) (.cons (.lst (ub10 _ _ eb10) gb10 (by show 0 ≤ 1000; decide) .nil) .nil)))) (.cons (.tup (ub14 _ _ eb14) (by show 3 ≤ 1000; decide) (.cons (.int _) (.cons (.int _) (.cons (.tup (ub13 _ _ eb13) (by show 1 ≤ 1000; decide) (.cons (.tup (ub12 _ _ eb12) (by show 2 ≤ 1000; decide) (.cons (.str (by decide +kernel)) (.cons (.int _) .nil))) .nil)) .nil)))) (.cons (.tup (ub15 _ _ eb15) (by show 3 ≤ 1000; decide) (.cons (.int _) (.cons (.int _) (.cons .non .nil)))) .nil)))))))))))
    have eb := eb16
    have hlb := hpb16
    have fb := (SA.keep tb15).free hlb
    have nb := tb15.free hlb
    have Sb := SA.keep tb
    have Xb := XA.ext tb
    refine ⟨_, rfl, (by show 3 ≤ sizeLine; decide), fun pc0 hpc0 => ?_⟩
    generalize hHc0 : upd Hb pc0 _ = Hc0
    obtain ⟨sc0, ec0⟩ := freshF hpc0 hHc0
    have tc0 : Same Hb Hc0 := sc0
    refine ⟨(by show 1 ≤ sizeLine; decide), fun pc1 hpc1 => ?_⟩
    generalize hHc1 : upd Hc0 pc1 _ = Hc1
    obtain ⟨sc1, ec1⟩ := freshF hpc1 hHc1
    have tc1 : Same Hb Hc1 := tc0.trans sc1
    refine ⟨(by show 3 ≤ sizeLine; decide), fun pc2 hpc2 => ?_⟩
    generalize hHc2 : upd Hc1 pc2 _ = Hc2
    obtain ⟨sc2, ec2⟩ := freshF hpc2 hHc2
    have tc2 : Same Hb Hc2 := tc1.trans sc2
    refine ⟨(by show 3 ≤ sizeLine; decide), fun pc3 hpc3 => ?_⟩
    generalize hHc3 : upd Hc2 pc3 _ = Hc3
    obtain ⟨sc3, ec3⟩ := freshF hpc3 hHc3
    have tc3 : Same Hb Hc3 := tc2.trans sc3
    refine ⟨(by show 1 ≤ sizeLine; decide), fun pc4 hpc4 => ?_⟩
    generalize hHc4 : upd Hc3 pc4 _ = Hc4
    obtain ⟨sc4, ec4⟩ := freshF hpc4 hHc4
    have tc4 : Same Hb Hc4 := tc3.trans sc4
    refine ⟨(by show 3 ≤ sizeLine; decide), fun pc5 hpc5 => ?_⟩
    generalize hHc5 : upd Hc4 pc5 _ = Hc5
    obtain ⟨sc5, ec5⟩ := freshF hpc5 hHc5
    have tc5 : Same Hb Hc5 := tc4.trans sc5
    refine ⟨(by show 3 ≤ sizeLine; decide), fun pc6 hpc6 => ?_⟩
    generalize hHc6 : upd Hc5 pc6 _ = Hc6
    obtain ⟨sc6, ec6⟩ := freshF hpc6 hHc6
    have tc6 : Same Hb Hc6 := tc5.trans sc6
    refine ⟨(by show 1 ≤ sizeLine; decide), fun pc7 hpc7 => ?_⟩
    generalize hHc7 : upd Hc6 pc7 _ = Hc7
    obtain ⟨sc7, ec7⟩ := freshF hpc7 hHc7
    have tc7 : Same Hb Hc7 := tc6.trans sc7
    refine ⟨(by show 3 ≤ sizeLine; decide), fun pc8 hpc8 => ?_⟩
    generalize hHc8 : upd Hc7 pc8 _ = Hc8
    obtain ⟨sc8, ec8⟩ := freshF hpc8 hHc8
    have tc8 : Same Hb Hc8 := tc7.trans sc8
    refine ⟨(by show 3 ≤ sizeLine; decide), fun pc9 hpc9 => ?_⟩
    generalize hHc9 : upd Hc8 pc9 _ = Hc9
    obtain ⟨sc9, ec9⟩ := freshF hpc9 hHc9
    have tc9 : Same Hb Hc9 := tc8.trans sc9
    refine ⟨(by show 1 ≤ sizeLine; decide), fun pc10 hpc10 => ?_⟩
    generalize hHc10 : upd Hc9 pc10 _ = Hc10
    obtain ⟨sc10, ec10⟩ := freshF hpc10 hHc10
    have tc10 : Same Hb Hc10 := tc9.trans sc10
    refine ⟨_, _, _, rfl, rfl, SqT.of ec10, by simp, by decide, by decide, (by show 1 ≤ 1000; decide), fun pc11 hpc11 => ?_⟩
    generalize hHc11 : upd Hc10 pc11 _ = Hc11
    obtain ⟨sc11, ec11⟩ := freshF hpc11 hHc11
    have tc11 : Same Hb Hc11 := tc10.trans sc11
    refine ⟨(by show 3 ≤ sizeLine; decide), fun pc12 hpc12 => ?_⟩
    generalize hHc12 : upd Hc11 pc12 _ = Hc12
    obtain ⟨sc12, ec12⟩ := freshF hpc12 hHc12
    have tc12 : Same Hb Hc12 := tc11.trans sc12
    refine ⟨(by show 3 ≤ sizeLine; decide), fun pc13 hpc13 => ?_⟩
    generalize hHc13 : upd Hc12 pc13 _ = Hc13
    obtain ⟨sc13, ec13⟩ := freshF hpc13 hHc13
    have tc13 : Same Hb Hc13 := tc12.trans sc13
    have gc13 := ((Sb.keep tc12).free hpc13).2.1
    refine ⟨(by show 1 ≤ sizeLine; decide), fun pc14 hpc14 => ?_⟩
    generalize hHc14 : upd Hc13 pc14 _ = Hc14
    obtain ⟨sc14, ec14⟩ := freshF hpc14 hHc14
    have tc14 : Same Hb Hc14 := tc13.trans sc14
    refine ⟨(by show 3 ≤ sizeLine; decide), fun pc15 hpc15 => ?_⟩
    generalize hHc15 : upd Hc14 pc15 _ = Hc15
    obtain ⟨sc15, ec15⟩ := freshF hpc15 hHc15
    have tc15 : Same Hb Hc15 := tc14.trans sc15
    refine ⟨(by show 5 ≤ sizeLine; decide), fun lc hpc16 => ?_⟩
    generalize hHc16 : upd Hc15 lc _ = Hc
    obtain ⟨sc16, ec16⟩ := freshF hpc16 hHc16
    have tc16 : Same Hb Hc := tc15.trans sc16
    have gc16 := ((Sb.keep tc15).free hpc16).2.1
    have uc15 : Same Hc15 Hc := sc16
    have uc14 : Same Hc14 Hc := sc15.trans uc15
    have uc13 : Same Hc13 Hc := sc14.trans uc14
    have uc12 : Same Hc12 Hc := sc13.trans uc13
    have uc11 : Same Hc11 Hc := sc12.trans uc12
    have uc10 : Same Hc10 Hc := sc11.trans uc11
    have uc9 : Same Hc9 Hc := sc10.trans uc10
    have uc8 : Same Hc8 Hc := sc9.trans uc9
    have uc7 : Same Hc7 Hc := sc8.trans uc8
    have uc6 : Same Hc6 Hc := sc7.trans uc7
    have uc5 : Same Hc5 Hc := sc6.trans uc6
    have uc4 : Same Hc4 Hc := sc5.trans uc5
    have uc3 : Same Hc3 Hc := sc4.trans uc4
    have uc2 : Same Hc2 Hc := sc3.trans uc3
    have uc1 : Same Hc1 Hc := sc2.trans uc2
    have uc0 : Same Hc0 Hc := sc1.trans uc1
    have tc := tc16
    have dvc : DVs g Hc [V.ref pc2, V.ref pc5, V.ref pc8, V.ref pc12, V.ref pc15] [Dt.tup [Dt.int 0, Dt.int 0, Dt.tup [Dt.tup [Dt.str "by", Dt.int 0, Dt.int 0]]], Dt.tup [Dt.int 0, Dt.int 0, Dt.tup [Dt.tup [Dt.str "at", Dt.int 6, Dt.int 0]]], Dt.tup [Dt.int 0, Dt.int 0, Dt.tup [Dt.tup [Dt.str "first", Dt.int 0, Dt.int 1000]]], Dt.tup [Dt.int 0, Dt.int 0, Dt.tup [Dt.tup [Dt.str "at", Dt.int 0, Dt.int 0], Dt.tup [Dt.str "at", Dt.int 0, Dt.int 0], Dt.tup [Dt.str "at", Dt.int 0, Dt.int 0], Dt.tup [Dt.str "at", Dt.int 0, Dt.int 0], Dt.tup [Dt.str "at", Dt.int 0, Dt.int 0], Dt.tup [Dt.str "at", Dt.int 0, Dt.int 0], Dt.tup [Dt.str "at", Dt.int 0, Dt.int 0], Dt.tup [Dt.str "at", Dt.int 0, Dt.int 0], Dt.tup [Dt.str "at", Dt.int 0, Dt.int 0]]], Dt.tup [Dt.int 0, Dt.int 0, Dt.tup [Dt.lst [Dt.str "at", Dt.int 0, Dt.int 0]]]] := (.cons (.tup (uc2 _ _ ec2) (by show 3 ≤ 1000; decide) (.cons (.int _) (.cons (.int _) (.cons (.tup (uc1 _ _ ec1) (by show 1 ≤ 1000; decide) (.cons (.tup (uc0 _ _ ec0) (by show 3 ≤ 1000; decide) (.cons (.str (by decide +kernel)) (.cons (.int _) (.cons (.int _) .nil)))) .nil)) .nil)))) (.cons (.tup (uc5 _ _ ec5) (by show 3 ≤ 1000; decide) (.cons (.int _) (.cons (.int _) (.cons (.tup (uc4 _ _ ec4) (by show 1 ≤ 1000; decide) (.cons (.tup (uc3 _ _ ec3) (by show 3 ≤ 1000; decide) (.cons (.str (by decide +kernel)) (.cons (.int _) (.cons (.int _) .nil)))) .nil)) .nil)))) (.cons (.tup (uc8 _ _ ec8) (by show 3 ≤ 1000; decide) (.cons (.int _) (.cons (.int _) (.cons (.tup (uc7 _ _ ec7) (by show 1 ≤ 1000; decide) (.cons (.tup (uc6 _ _ ec6) (by show 3 ≤ 1000; decide) (.cons (.str (by decide +kernel)) (.cons (.int _) (.cons (.int _) .nil)))) .nil)) .nil)))) (.cons (.tup (uc12 _ _ ec12) (by show 3 ≤ 1000; decide) (.cons (.int _) (.cons (.int _) (.cons (.tup (uc11 _ _ ec11) (by show 9 ≤ 1000; decide) (.cons (.tup (uc9 _ _ ec9) (by show 3 ≤ 1000; decide) (.cons (.str (by decide +kernel)) (.cons (.int _) (.cons (.int _) .nil)))) (.cons (.tup (uc9 _ _ ec9) (by show 3 ≤ 1000; decide) (.cons (.str (by decide +kernel)) (.cons (.int _) (.cons (.int _) .nil)))) (.cons (.tup (uc9 _ _ ec9) (by show 3 ≤ 1000; decide) (.cons (.str (by decide +kernel)) (.cons (.int _) (.cons (.int _) .nil)))) (.cons (.tup (uc9 _ _ ec9) (by show 3 ≤ 1000; decide) (.cons (.str (by decide +kernel)) (.cons (.int _) (.cons (.int _) .nil)))) (.cons (.tup (uc9 _ _ ec9) (by show 3 ≤ 1000; decide) (.cons (.str (by decide +kernel)) (.cons (.int _) (.cons (.int _) .nil)))) (.cons (.tup (uc9 _ _ ec9) (by show 3 ≤ 1000; decide) (.cons (.str (by decide +kernel)) (.cons (.int _) (.cons (.int _) .nil)))) (.cons (.tup (uc9 _ _ ec9) (by show 3 ≤ 1000; decide) (.cons (.str (by decide +kernel)) (.cons (.int _) (.cons (.int _) .nil)))) (.cons (.tup (uc9 _ _ ec9) (by show 3 ≤ 1000; decide) (.cons (.str (by decide +kernel)) (.cons (.int _) (.cons (.int _) .nil)))) (.cons (.tup (uc9 _ _ ec9) (by show 3 ≤ 1000; decide) (.cons (.str (by decide +kernel)) (.cons (.int _) (.cons (.int _) .nil)))) .nil)))))))))) .nil)))) (.cons (.tup (uc15 _ _ ec15) (by show 3 ≤ 1000; decide) (.cons (.int _) (.cons (.int _) (.cons (.tup (uc14 _ _ ec14) (by show 1 ≤ 1000; decide) (.cons (.lst (uc13 _ _ ec13) gc13 (by show 3 ≤ 1000; decide) (.cons (.str (by decide +kernel)) (.cons (.int _) (.cons (.int _) .nil)))) .nil)) .nil)))) .nil)))))
    have ec := ec16
    have hlc := hpc16
    have fc := (Sb.keep tc15).free hlc
    have nc := tc15.free hlc
    have tbc := tb.trans tc
    refine ⟨lb, lc, _, _, rfl, rfl, tc _ _ eb, ec, (by show 11 + 5 ≤ sizeLine; decide), fun q3 hq3 => ?_⟩
    generalize hHD : upd Hc q3 _ = HD
    obtain ⟨sq3, eq3⟩ := freshF hq3 hHD
    have tD := tbc.trans sq3
    have SD := SA.keep tD
    have XD := XA.ext tD
    have f3 := (SA.keep tbc).free hq3
    refine ⟨_, rfl, _, rfl, d, g, c, q3, _, _, rfl, SD, by omega, eq3, f3.2.1, by simp, (by show 11 + 5 ≤ 1000000; decide), fun bv HE hbv SE kpE => ?_⟩
    have XE := tabs_kp XD SD kpE
    obtain ⟨bd, hbd, hb⟩ := (DVs.app (dvb.keep (Kv.of (tc.trans sq3))) (dvc.keep (Kv.of sq3))).pick hbv
    have hb := hb.keep (Kv.kp SD kpE)
    have nob : codeF bd = true ∧ codeB bd = false := by
      clear hb
      simp only [List.mem_append, List.mem_cons, List.not_mem_nil, or_false] at hbd
      rcases hbd with (rfl | rfl | rfl | rfl | rfl | rfl | rfl | rfl | rfl | rfl | rfl) | rfl | rfl | rfl | rfl | rfl <;> first | exact ⟨rfl, rfl⟩ | exact ⟨by decide +kernel, by decide +kernel⟩
    refine ⟨XE, fun HF eF XF => ?_⟩
    have SF := SE.extN eF
    have hb := hb.keep (Kv.extN eF)
    refine ⟨_, rfl, g, bv, bd, rfl, hb, nob.1, .inr ⟨nob.2, fun HG sG => ?_⟩⟩
    refine ⟨true, E2.exm, fun _ a2 ha2 => ?_, fun z => nomatch z⟩
    generalize hHI : upd HG a2 _ = HI
    obtain ⟨sa2, ea2⟩ := freshF ha2 hHI
    have sFI := sG.trans sa2
    refine ⟨a2, _, _, true, rfl, (fun u h => h), ea2, kit_self, ?_⟩
    exact k HI ((SF.keep sFI).mono (by omega)) (XF.ext sFI)
end
end K80

set_option Elab.async false
set_option linter.all false
set_option pp.maxSteps 900
set_option maxRecDepth 100000
set_option maxHeartbeats 4000000
namespace K80
open PySem PySem.Spec PyProof.Rows L2
open LamX (Tabs TabS ExtN CodeO)
open TL (tl)
/-- e.f, e a kept error of the class at C -/
def tXh (C : Addr) (f : Str) (te : TE) : TE := fun σ H Q => te σ H fun x H1 => ∃ (a dd : Addr) (fs : List (Str × V)) (v : V), x = .ref a ∧ H1 a = some (exh a (.ref C) (some dd)) ∧ H1 dd = some (.xd fs) ∧ fs.lookup f = some v ∧ Q v H1
theorem pe_xh {X : Cx} {C : Addr} {e : Expr} {te : TE} {pos : Pos} {n : Str} (T : XfC X.K C) (hno : PySem.W.findIn X.K (.ref C) n = some none) (he : PE X e te) (hb : attributeBase e n X.env (eval e X.env) = eval e X.env := by rfl) :
    PE X (.Attribute e n pos) (tXh C n te) := by
  refine ⟨fun pins s σ H Q I h => ?_⟩
  refine attr_of hb (thn (he.run pins s σ H _ I h) fun u s1 hh => ?_)
  obtain ⟨x, H1, I1, rx, a, dd, fs, v, ex, h1, h2, l, q⟩ := hh
  subst ex
  obtain rfl : u = Value.ref a := rx
  obtain ⟨oe, od, mA, J, hr, hl⟩ := exh_inst I1 h1 h2
  obtain ⟨u, hu, ru⟩ := RelO.some_of (v := v) (o := mA n) (by rw [← l]; exact hr n)
  exact HandSPX.exc_get I1.kIn J T.ga T.gg T.exC (PySem.W.findObj_own T.hdC hno rfl (by rw [hl, hu])) (handed_of ru) ⟨v, H1, I1.tok _, ru, q⟩
theorem fs_index (v : V) : ([("index", v)] : List (Str × V)).lookup ("index" : Str) = some v := by
  rw [List.lookup_cons]
  rw [show (("index" : Str) == "index") = true from beq_self_eq_true _]
/-! ### the words of a text, joined and split -/
theorem spS_join {l : List (List Nat)} (hne : l ≠ []) (h : ∀ p ∈ l, 32 ∉ p) : spS 32 (TL.joinL [32] l) = l := by
  obtain ⟨a, t, e⟩ := spS_ne 32 (TL.joinL [32] l)
  have h1 := spl_spS 32 _ [] a t e
  rw [TL.spl_join hne h] at h1
  rw [e, h1]
  rfl
theorem spS_free' (s : Nat) : ∀ l : List Nat, ∀ p ∈ spS s l, s ∉ p
  | [], p, hp => by
    rw [List.mem_singleton.mp hp]
    exact List.not_mem_nil
  | c :: r, p, hp => by
    have ih := spS_free' s r
    by_cases h : c = s
    · subst h
      rw [spS_hit] at hp
      rcases List.mem_cons.mp hp with rfl | hp
      · exact List.not_mem_nil
      · exact ih p hp
    · rw [spS_miss h] at hp
      obtain ⟨a, t, e⟩ := spS_ne s r
      rw [e] at hp ih
      rcases List.mem_cons.mp (show p ∈ (c :: a) :: t from hp) with rfl | hp
      · intro z
        rcases List.mem_cons.mp z with z | z
        · exact h z.symm
        · exact ih a List.mem_cons_self z
      · exact ih p (List.mem_cons_of_mem _ hp)
theorem pieces_free (l : List Nat) : ∀ p ∈ piecesOf l, 32 ∉ p := fun p hp => by
  unfold piecesOf at hp
  by_cases h : l = []
  · rw [if_pos h] at hp
    cases hp
  · rw [if_neg h] at hp
    exact spS_free' 32 l p hp
theorem poW_law (z : Str) : (piecesOf (tl z)).map (fun p => lawWord (mkS p)) = poW z := by
  unfold poW
  refine List.map_congr_left fun p hp => ?_
  exact lawWord_eq (z := mkS p) (by rw [tl_mkS]; exact pieces_free _ p hp)
theorem wordT_ne {p : PW} (h : okW p) : tl (wordT p) ≠ [] := fun e => by
  have h1 := word_T h
  rw [show wordT p = ("" : Str) from str_ext (by rw [e, emp_tl])] at h1
  rw [show wordOf ("" : Str) = none by decide +kernel] at h1
  cases h1
def txt (ps : List PW) : Str := Txt.join spS1 (ps.map wordT)
theorem poW_text {ps : List PW} (h : ∀ p ∈ ps, okW p) : poW (txt ps) = ps.map some := by
  have e : tl (txt ps) = TL.joinL [32] ((ps.map wordT).map tl) := by
    unfold txt
    rw [TL.join_eq, TL.tl_join, tl_sp]
  have hp : piecesOf (tl (txt ps)) = (ps.map wordT).map tl := by
    rw [e]
    cases ps with
    | nil => rfl
    | cons p r =>
      have hj := spS_join (l := ((p :: r).map wordT).map tl) (by simp) (fun q hq => by
        obtain ⟨y, hy, rfl⟩ := List.mem_map.mp hq
        obtain ⟨q, hq', rfl⟩ := List.mem_map.mp hy
        exact wordT_free (h q hq'))
      unfold piecesOf
      rw [if_neg (fun z => ?_), hj]
      rw [z] at hj
      injection hj with h1 h2
      exact wordT_ne (h p List.mem_cons_self) h1.symm
  unfold poW
  rw [hp, List.map_map, List.map_map]
  refine List.map_congr_left fun p hp => ?_
  show wordOf (mkS (tl (wordT p))) = some p
  rw [mkS_tl]
  exact word_T (h p hp)
theorem any_some {ps : List PW} : (ps.map some).any (fun o => o.isNone) = false := by
  induction ps with
  | nil => rfl
  | cons p r ih =>
    rw [List.map_cons, List.any_cons, ih]
    rfl
theorem poE_text {ps : List PW} (h : ∀ p ∈ ps, okW p) (h40 : ps.length ≤ 40) : poE (txt ps) = none := by
  unfold poE
  rw [poW_text h, no_none any_some]
  show (if 40 < (ps.map some).length then some (40 : Int) else none) = none
  rw [List.length_map, if_neg (by omega)]
theorem txt_len {ps : List PW} (h : ∀ p ∈ ps, okW p) (h40 : ps.length ≤ 40) : (txt ps).length ≤ 3080 := by
  have h1 := join_len spS1 (ps.map wordT)
  have h2 : ((ps.map wordT).map (·.length)).sum ≤ (ps.map wordT).length * 76 := sum_lens fun x hx => by
    obtain ⟨p, hp, rfl⟩ := List.mem_map.mp hx
    exact wordT_len (h p hp)
  rw [List.length_map] at h1 h2
  rw [sp_len] at h1
  unfold txt
  omega
/-! ### the wrong words' places -/
def isN (os : List (Option PW)) (j : Nat) : Bool := match os[j]? with
  | some none => true
  | _ => false
def noneIx (os : List (Option PW)) (n : Nat) : List Nat := (List.range n).filter (isN os)
theorem noneIx_s (os : List (Option PW)) (n : Nat) : noneIx os (n + 1) = noneIx os n ++ (if isN os n = true then [n] else []) := by
  unfold noneIx
  rw [List.range_succ, List.filter_append]
  congr 1
  cases h : isN os n with
  | true => rw [List.filter_cons_of_pos (by exact h)]; rfl
  | false => rw [List.filter_cons_of_neg (by rw [h]; exact Bool.false_ne_true)]; rfl
def wr (os : List (Option PW)) : List V := ((noneIx os os.length).map fun n : Nat => V.int (n : Nat)) ++ (if 40 < os.length then [V.int 40] else [])
theorem ix_none {os : List (Option PW)} (h : ∀ j, isN os j = false) : ∀ n, noneIx os n = []
  | 0 => rfl
  | n + 1 => by
    rw [noneIx_s, ix_none h n, h n]
    rfl
theorem ix_first {os : List (Option PW)} {j : Nat} (hj : isN os j = true) (h : ∀ m, m < j → isN os m = false) : ∀ n, n ≤ j → noneIx os n = []
  | 0, _ => rfl
  | n + 1, hn => by
    rw [noneIx_s, ix_first hj h n (by omega), h n (by omega)]
    rfl
theorem ix_after {os : List (Option PW)} {j : Nat} (hj : isN os j = true) (h : ∀ m, m < j → isN os m = false) : ∀ n, j < n → ∃ r, noneIx os n = j :: r
  | n + 1, hn => by
    rw [noneIx_s]
    by_cases e : n = j
    · subst e
      rw [ix_first hj h n (Nat.le_refl _), hj]
      exact ⟨[], rfl⟩
    · obtain ⟨r, hr⟩ := ix_after hj h n (by omega)
      rw [hr]
      exact ⟨_, rfl⟩
theorem wr_poE (z : Str) : (∃ i r, poE z = some i ∧ wr (poW z) = V.int i :: r) ∨ (poE z = none ∧ wr (poW z) = []) := by
  cases hany : (poW z).any (fun o => o.isNone) with
  | true =>
    obtain ⟨j, j1, j2, j3⟩ := first_none hany
    have hj : isN (poW z) j = true := by
      unfold isN
      rw [j2]
    have hm : ∀ m, m < j → isN (poW z) m = false := fun m hm => by
      unfold isN
      cases e : (poW z)[m]? with
      | none => rfl
      | some o =>
        obtain ⟨a, rfl⟩ := j3 m o hm e
        rfl
    have hl : j < (poW z).length := (List.getElem?_eq_some_iff.mp j2).1
    obtain ⟨r, hr⟩ := ix_after hj hm _ hl
    refine .inl ⟨j, (r.map fun n : Nat => V.int (n : Nat)) ++ (if 40 < (poW z).length then [V.int 40] else []), ?_, ?_⟩
    · unfold poE
      rw [j1]
    · unfold wr
      rw [hr]
      rfl
  | false =>
    obtain ⟨ps, hps⟩ := all_some hany
    have hm : ∀ m, isN (poW z) m = false := fun m => by
      unfold isN
      rw [hps, List.getElem?_map]
      cases e : ps[m]? with
      | none => rfl
      | some o => rfl
    have e1 : poE z = if 40 < (poW z).length then some (40 : Int) else none := by
      unfold poE
      rw [no_none hany]
    have e2 : wr (poW z) = if 40 < (poW z).length then [V.int 40] else [] := by
      unfold wr
      rw [ix_none hm]
      rfl
    by_cases h : 40 < (poW z).length
    · rw [if_pos h] at e1 e2
      exact .inl ⟨40, [], e1, e2⟩
    · rw [if_neg h] at e1 e2
      exact .inr ⟨e1, e2⟩
/-! ### a text, times -/
section
variable {X : Cx}
theorem op_mul_str : OpR X (binaryOp .Mult) (fun x y H Q => ∃ (i : Str) (n : Int), x = .str i ∧ y = .int n ∧ 1 ≤ n ∧ n ≤ 1000 ∧ i.length ≤ 1000 ∧ Q (.str (Txt.mul i n)) H) := by
  intro pins s σ H x y v u Q I rx ry h
  obtain ⟨i, n, rfl, rfl, h0, h1, h2, q⟩ := h
  obtain ⟨t, rfl⟩ := rx
  obtain ⟨t', rfl⟩ := ry
  refine SB.mul ⟨?_, ?_, ?_⟩ fun t' k => ⟨.str _, H, I.tok _, ⟨_, rfl⟩, q⟩
  · rw [decide_eq_false (by omega), decide_eq_false (by omega)]
    rfl
  · intro _ _
    have : (1000 : Int) ≤ (2 ^ 63 - 1) / n := by
      refine Int.le_ediv_of_mul_le (by omega) ?_
      omega
    omega
  · intro _ _
    have : i.length * n.toNat ≤ 1000 * 1000 := Nat.mul_le_mul h2 (by omega)
    exact decide_eq_false (show ¬ (i.length * n.toNat > sizeLine) by rw [sizeLine_eq]; omega)
end
def rLenQ (K : PySem.W.Frag) : List V → Hp → VK → Prop := fun xs H Q => ∃ p ys, xs = [.ref p] ∧ (SqL K H p ys ∨ SqT K H p ys) ∧ Q (.int (ys.length : Nat)) H
/-! ### slices of lists -/
theorem cutV_take {xs : List V} {n : Nat} : cutV xs none (some (n : Int)) = xs.take n := by
  unfold cutV
  rw [HT.sIx_nat, HT.sIx_none, List.drop_zero, Nat.sub_zero]
  by_cases h : n ≤ xs.length
  · rw [Nat.min_eq_left h]
  · rw [Nat.min_eq_right (by omega), List.take_of_length_le (by omega), List.take_of_length_le (by omega)]
theorem cutV_drop {xs : List V} {n : Nat} : cutV xs (some (n : Int)) none = xs.drop n := by
  unfold cutV
  rw [HT.sIx_nat, HT.sIx_none]
  by_cases h : n ≤ xs.length
  · rw [Nat.min_eq_left h]
    refine List.take_of_length_le ?_
    rw [List.length_drop]
    omega
  · rw [Nat.min_eq_right (by omega), List.drop_eq_nil_of_le (by omega), List.drop_eq_nil_of_le (by omega)]
    exact List.take_nil
theorem DVs.take {g : Addr} {H : Hp} : ∀ {xs : List V} {ds : List Dt} (n : Nat), DVs g H xs ds → DVs g H (xs.take n) (ds.take n)
  | _, _, 0, _ => .nil
  | _, _, _ + 1, .nil => .nil
  | _, _, n + 1, .cons h r => .cons h (r.take n)
theorem DVs.drop {g : Addr} {H : Hp} : ∀ {xs : List V} {ds : List Dt} (n : Nat), DVs g H xs ds → DVs g H (xs.drop n) (ds.drop n)
  | _, _, 0, h => h
  | _, _, _ + 1, .nil => .nil
  | _, _, n + 1, .cons _ r => r.drop n
theorem DVs.rep {g : Addr} {H : Hp} {xs : List V} {ds : List Dt} (h : DVs g H xs ds) : ∀ n : Nat, DVs g H (List.replicate n xs).flatten (List.replicate n ds).flatten
  | 0 => .nil
  | n + 1 => DVs.app h (DVs.rep h n)
/-! ### a wrong word among right ones -/
theorem take_all {α : Type} {l : List α} {d : α} (h : l.length = 40) : ((l.take 40 ++ [d]) ++ l.drop 40).take 40 = l := by
  rw [List.append_assoc, List.take_append_of_le_length (by rw [List.length_take]; omega), List.take_take, List.take_of_length_le (by omega)]

theorem firstBad_at {ps : List PW} {d : Dt} {n : Nat} (h : ∀ p ∈ ps, okW p) (hn : n < ps.length ∨ n = ps.length) (hd : wordB d = false) (h40 : n < 40) :
    firstBad ((((ps.map wordD).take n ++ [d]) ++ (ps.map wordD).drop n).take 40) = some n := by
  have hl : ((ps.map wordD).take n).length = n := by
    rw [List.length_take, List.length_map]
    omega
  refine first_bad (d := d) ?_ hd fun j hj => ?_
  · rw [List.getElem?_take_of_lt h40, List.append_assoc, List.getElem?_append_right (by omega), hl, Nat.sub_self]
    rfl
  · refine ⟨((ps.map wordD).take n)[j]'(by omega), ?_, ?_⟩
    · rw [List.getElem?_take_of_lt (by omega), List.append_assoc, List.getElem?_append_left (by omega)]
      exact List.getElem?_eq_getElem _
    · rw [List.getElem_take, List.getElem_map]
      exact (wordB_of (h _ (List.getElem_mem _))).1
/-- the law's words -/
def WSt (wl : Addr) (H : Hp) (ps : List PW) : Prop := ∃ ws, H wl = some (.lst ws) ∧ (∀ g', DVs g' H ws (ps.map wordD)) ∧ ∀ q ∈ ps, okW q
theorem purs_words {ps : List PW} (h : ∀ q ∈ ps, okW q) : purs (ps.map wordD) = true := purs_map fun q hq => word_pur (h q hq)
theorem WSt.mono {wl : Addr} {H H' : Hp} {ps : List PW} (kt : Kt H H') (hw : ∀ xs, H wl = some (.lst xs) → H' wl = some (.lst xs)) (h : WSt wl H ps) : WSt wl H' ps := by
  obtain ⟨ws, e, r, ok⟩ := h
  exact ⟨ws, hw _ e, fun g' => DVs.keepP (g := 0) kt (purs_words ok) (r 0), ok⟩
theorem WSt.keep {wl : Addr} {H H' : Hp} {ps : List PW} (s : Same H H') (h : WSt wl H ps) : WSt wl H' ps := h.mono (Kt.of s) fun xs e => s _ _ e
theorem WSt.kp {wl d g c : Addr} {n : Nat} {H H' : Hp} {ps : List PW} (S : StA H d g c n) (k : Kp d g H H') (h1 : wl ≠ d) (h2 : wl ≠ g) (h : WSt wl H ps) : WSt wl H' ps := h.mono (Kt.kp S k) fun xs e => k _ _ e h1 h2
theorem WSt.extN {wl : Addr} {H H' : Hp} {ps : List PW} (s : ExtN H H') (h : WSt wl H ps) : WSt wl H' ps := h.mono (fun b xs e => s _ _ e (fun _ z => by cases z)) fun xs e => s _ _ e (fun _ z => by cases z)
theorem tabs_put {T : List (Addr × Str)} {H : Hp} {p : Addr} {l l' : List V} (t : Tabs T H) (h : H p = some (.lst l)) : Tabs T (upd H p (.lst l')) := by
  refine tabs_but t fun b o e n1 n2 => ?_
  have hb : b ≠ p := fun z => by
    rw [z, h] at e
    exact n2 _ (Option.some.inj e).symm
  rw [upd_ne hb]
  exact e
theorem poW_pur (z : Str) : purs ((poW z).map (oD wordD)) = true := by
  unfold poW
  rw [List.map_map]
  refine purs_map fun p _ => ?_
  show pur (oD wordD (wordOf (mkS p))) = true
  cases e : wordOf (mkS p) with
  | none => rfl
  | some q => exact word_purO e
/-- the law's pieces -/
def PSt (pp : Addr) (H : Hp) (z : Str) : Prop := ∃ ys, H pp = some (.lst ys) ∧ ∀ g', DVs g' H ys ((poW z).map (oD wordD))
theorem PSt.mono {pp : Addr} {H H' : Hp} {z : Str} (kt : Kt H H') (hw : ∀ xs, H pp = some (.lst xs) → H' pp = some (.lst xs)) (h : PSt pp H z) : PSt pp H' z := by
  obtain ⟨ws, e, r⟩ := h
  exact ⟨ws, hw _ e, fun g' => DVs.keepP (g := 0) kt (poW_pur z) (r 0)⟩
theorem PSt.keep {pp : Addr} {H H' : Hp} {z : Str} (s : Same H H') (h : PSt pp H z) : PSt pp H' z := h.mono (Kt.of s) fun xs e => s _ _ e
theorem PSt.extN {pp : Addr} {H H' : Hp} {z : Str} (s : ExtN H H') (h : PSt pp H z) : PSt pp H' z := h.mono (fun b xs e => s _ _ e (fun _ z => by cases z)) fun xs e => s _ _ e (fun _ z => by cases z)
theorem isN_at {os : List (Option PW)} {g : Addr} {H : Hp} {ys : List V} {i : Nat} {v : V} (r : DVs g H ys (os.map (oD wordD))) (h : ys[i]? = some v) : decide (v = V.non) = isN os i := by
  obtain ⟨d, hd, hv⟩ := r.at_ h
  rw [List.getElem?_map] at hd
  obtain ⟨o, ho, rfl⟩ := Option.map_eq_some_iff.mp hd
  unfold isN
  rw [ho]
  cases o with
  | none =>
    cases hv
    rfl
  | some q =>
    have hv : DV g H v (wordD q) := hv
    rw [← wl_eq] at hv
    obtain ⟨b, xs, rfl, _⟩ := DV.tup_inv hv
    rfl
theorem lay_word {L : Lab} (h : okL L) : okW (.lb "lay" L) := ⟨by decide +kernel, h⟩
theorem peel_word {L : Lab} (h : okL L) : okW (.lb "peel" L) := ⟨by decide +kernel, h⟩
end K80

set_option Elab.async false
set_option linter.all false
set_option pp.maxSteps 900
set_option maxRecDepth 100000
set_option maxHeartbeats 8000000
namespace K80
open PySem PySem.Spec PyProof.Rows L2
open LamX (GivesTo CodeO Tabs TabS TabB tLam pe_lamcall lamCx lamEnv lamS_by ExtN)
open TL (tl)
/-- an own error with one field, asked for it -/
structure Ex1 (K : PySem.W.Frag) (C : Addr) : Prop where
  xf : XfC K C
  ni : PySem.W.findIn K (.ref C) "index" = some none
section
variable {P : Program} {w : World} {K : PySem.W.Frag} {mg : Str → Option Value} {base : Heap}
theorem scPr2 : FnScope ["state", "plain", "words", "lap", "text", "more", "other", "pieces", "wrong", "raised", "at", "odd", "word", "piece"] ["state"] (defScope sPR) := ⟨rfl, rfl, rfl, by decide +kernel, rfl, by decide +kernel, by decide +kernel⟩
theorem ok_pr2 {f cR T1 T2 CE C1 C2 fCgt : Addr} {oc kV doc pm ct : Value} {od an : Option Addr} {sl : Array (Option Value)}
    {ocg kVg docg pmg cdg ctg : Value} {odg ang : Option Addr} {slg : Array (Option Value)}
    (lk : K.lookup f = some ⟨oc, od, .func (PySem.W.fnOf "_law_passes_right" "_law_passes_right" (defArgs sPR) (defBody sPR) (defScope sPR) .none kV doc pm an (.ref cR) ct), sl⟩) (hcd : PySem.W.codeIn K (.ref cR) "_law_passes_right" = true)
    (lkg : K.lookup fCgt = some ⟨ocg, odg, .func (PySem.W.fnOf "_law_caught" "_law_caught" (defArgs sCgt) (defBody sCgt) (defScope sCgt) .none kVg docg pmg ang cdg ctg), slg⟩) (hcg : PySem.W.codeIn K cdg "_law_caught" = true)
    (bCgt : L2.Binds K (PySem.W.fnOf "_law_caught" "_law_caught" (defArgs sCgt) (defBody sCgt) (defScope sCgt) .none kVg docg pmg ang cdg ctg) ["action"] [])
    (B : Bn mg) (T : MgC mg K CE fCgt) (E1 : Ek K mg "BadPassesText" CE C1) (E2 : Ek K mg "BadPasses" CE C2) (Y1 : Ex1 K C1) (Y2 : Ex1 K C2) (TB : TabB base mg cR T2) (hne : T1 ≠ T2)
    (cLL : Cl P w K mg base "_law_label" ["state"] 5 spLL) (cTL : Cl P w K mg base "_law_told_label" ["label"] 1 spTL)
    (cPT : ClK (L2.CX P w) P w K mg base "passes_text" "words" 8 (spPT C2)) (cPO : ClK (L2.CX P w) P w K mg base "passes_of" "text" 5 (spPO C1))
    (cLB : Cl P w K mg base "_law_bent" ["state", "text"] 4 spLB) (cRP : Cl P w K mg base "_law_read_pass" ["text"] 3 spRP) (cP : Cl P w K mg base "_law_pick" ["state", "some"] 3 spPck) (cD : Cl P w K mg base "_law_draw" ["state", "room"] 2 spDrw) :
    FnOk P w K mg base CX0 11 f (PySem.W.fnOf "_law_passes_right" "_law_passes_right" (defArgs sPR) (defBody sPR) (defScope sPR) .none kV doc pm an (.ref cR) ct) ["state"] (spR T1 T2) := by
  obtain ⟨fLL, fdLL, GLL, mLL, kLL, bLL⟩ := cLL
  obtain ⟨fTL, fdTL, GTL, mTL, kTL, bTL⟩ := cTL
  obtain ⟨fPT, fdPT, GPT, mPT, kPT, bPT, hPT⟩ := cPT
  obtain ⟨fPO, fdPO, GPO, mPO, kPO, bPO, hPO⟩ := cPO
  obtain ⟨fLB, fdLB, GLB, mLB, kLB, bLB⟩ := cLB
  obtain ⟨fRP, fdRP, GRP, mRP, kRP, bRP⟩ := cRP
  obtain ⟨fP, fdP, GP, mP, kP, bP⟩ := cP
  obtain ⟨fD, fdD, GD, mD, kD, bD⟩ := cD
  refine fn_of lk hcd scPr2 (fun vs H Q E h => ?_) (fun A outer s H vs Q E hr h => ?_)
  · obtain ⟨d, g, c, n, rfl, _⟩ := h
    rfl
  · obtain ⟨d, g, c, n, rfl, S, hn, hT, k⟩ := h
    have hr1 : Room 1 _ := hr.mono (by decide)
    have hr2' : Room 2 _ := hr.mono (by decide)
    have hr3 : Room 3 _ := hr.mono (by decide)
    have hr4 : Room 4 _ := hr.mono (by decide)
    have hr5 : Room 5 _ := hr.mono (by decide)
    have hr8 : Room 8 _ := hr.mono (by decide)
    refine ⟨_, PSs.nox (pss_cons (ps_asg (pe_tup (pa_cons (pe_lst (pa_cons pe_str (pa_cons pe_str (pa_cons pe_str (pa_cons pe_str (pa_cons pe_str (pa_cons pe_str pa_nil))))))) (pa_cons (pe_lst pa_nil) pa_nil))) (pg_tup (by rfl) (pgs_cons (pg_name (i := 1) scPr2.nd rfl (Or.inl rfl)) (pgs_cons (pg_name (i := 2) scPr2.nd rfl (Or.inr rfl)) pgs_nil))))
      (pss_cons (ps_for PassesOwn.never rfl (pi_range1 (by rfl) B.rng (pa_cons (pe_call GP hr3 (by rfl) mP kP bP .nil pass0 (pa_cons (pv 0) (pa_cons (pe_lst (pa_cons pe_int (pa_cons pe_int (pa_cons pe_int (pa_cons pe_int (pa_cons pe_int pa_nil)))))) pa_nil))) pa_nil)) (pg_name (i := 3) scPr2.nd rfl (Or.inl rfl))
          (pss_one (ps_expr (qApp (pv 2) (pe_call GP hr3 (by rfl) mP kP bP .nil pass0 (pa_cons (pv 0) (pa_cons (pe_lst (pa_cons (pe_tup (pa_cons (pe_call GP hr3 (by rfl) mP kP bP .nil pass0 (pa_cons (pv 0) (pa_cons (pv 1) pa_nil))) pa_nil)) (pa_cons (pe_tup (pa_cons pe_str (pa_cons (pe_call GLL hr5 (by rfl) mLL kLL bLL .nil pass0 (pa_cons (pv 0) pa_nil)) pa_nil))) (pa_cons (pe_tup (pa_cons pe_str (pa_cons (pe_call GLL hr5 (by rfl) mLL kLL bLL .nil pass0 (pa_cons (pv 0) pa_nil)) pa_nil))) pa_nil)))) pa_nil)))))))
      (pss_cons (ps_set (i := 4) scPr2.nd rfl (Or.inr rfl) (pe_join pe_str (pe_lc (own := [("word", 12)]) (g := gName 12) (tt := tYes) (by rfl) scPr2.nd (pi_list (pv 2)) (blkOk_by (own := [("word", 12)]) (N := ["state", "plain", "words", "lap", "text", "more", "other", "pieces", "wrong", "raised", "at", "odd", "word", "piece"]) (sc := defScope sPR) (by decide +kernel)) (fun _ _ _ _ _ => (pg_name (i := 12) scPr2.nd rfl (Or.inl rfl))) (fun _ _ _ _ _ => pts_nil) (fun _ _ _ _ _ => (pe_ifExp (pt_cmpR op_eq (pe_callB (show CallR _ _ (rLenQ K) from call_len_seq) (by rfl) B.len PySem.boot_len (pa_cons (pv 12) pa_nil)) pe_int (nomark _)) (pe_ix (show IxR _ (rIxT K) from ix_tup) (pv 12) pe_int (fun _ _ => rfl)) (pe_op op_add_str (pe_op op_add_str (pe_ix (show IxR _ (rIxT K) from ix_tup) (pv 12) pe_int (fun _ _ => rfl)) pe_str) (pe_call GTL hr1 (by rfl) mTL kTL bTL .nil pass0 (pa_cons (pe_ix (show IxR _ (rIxT K) from ix_tup) (pv 12) pe_int (fun _ _ => rfl)) pa_nil))))))))
      (pss_cons (ps_if (PW.pt (pw_or (pt_cmpR op_ne (pe_callK0 GPT hr8 (by rfl) mPT kPT hPT passL (pk_cons (pv 2) pk_nil)) (pv 4) (nomark _)) (pw_or (pt_cmpR op_ne (pe_call GPT hr8 (by rfl) mPT kPT bPT .nil passL (pa_cons (pe_callTy call_tuple_of (by rfl) B.tpl (by decide +kernel) (pa_cons (pv 2) pa_nil)) pa_nil)) (pv 4) (nomark _)) (pw_or (pt_cmpR (op_neD hr.units) (pe_callK0 GPO hr5 (by rfl) mPO kPO hPO passL (pk_cons (pv 4) pk_nil)) (pv 2) (nomark _)) (pw_or1 (pt_not (pt_val (pe_callB call_isi (by rfl) B.isi (by decide +kernel) (pa_cons (pe_call GPO hr5 (by rfl) mPO kPO bPO .nil passL (pa_cons (pv 4) pa_nil)) (pa_cons (pe_bltn (v := .ty "list") (by rfl) B.lst boot_list rfl) pa_nil)))))))))) (pss_one (ps_ret pe_bl)) pss_nil)
      (pss_cons (ps_set (i := 5) scPr2.nd rfl (Or.inl rfl) (pe_op op_add_str (pe_op op_add_str (pe_op op_mul_str pe_str (pe_call GP hr3 (by rfl) mP kP bP .nil pass0 (pa_cons (pv 0) (pa_cons (pe_lst (pa_cons pe_int (pa_cons pe_int (pa_cons pe_int pa_nil)))) pa_nil)))) (pe_call GP hr3 (by rfl) mP kP bP .nil pass0 (pa_cons (pv 0) (pa_cons (pe_lst (pa_cons pe_str (pa_cons pe_str (pa_cons pe_str (pa_cons pe_str pa_nil))))) pa_nil)))) pe_str))
      (pss_cons (ps_set (i := 6) scPr2.nd rfl (Or.inr rfl) (pe_call GP hr3 (by rfl) mP kP bP .nil pass0 (pa_cons (pv 0) (pa_cons (pe_lst (pa_cons (pe_call GLB hr4 (by rfl) mLB kLB bLB .nil pass0 (pa_cons (pv 0) (pa_cons (pv 4) pa_nil))) (pa_cons (pe_op op_add_str (pv 4) pe_str) (pa_cons (pe_op op_add_str pe_str (pv 4)) (pa_cons (pe_call GLB hr4 (by rfl) mLB kLB bLB .nil pass0 (pa_cons (pv 0) (pa_cons (pv 4) pa_nil))) (pa_cons (pe_op op_add_str (pv 4) (pv 5)) pa_nil)))))) pa_nil))))
      (pss_mid (ps_set (i := 7) scPr2.nd rfl (Or.inr rfl) (pe_ifExp (pt_cmpR op_ne (pv 6) pe_str (nomark _)) (pe_lc (own := [("piece", 13)]) (g := gName 13) (tt := tYes) (by rfl) scPr2.nd (pi_list (pe_split (pv 6) pe_str)) (blkOk_by (own := [("piece", 13)]) (N := ["state", "plain", "words", "lap", "text", "more", "other", "pieces", "wrong", "raised", "at", "odd", "word", "piece"]) (sc := defScope sPR) (by decide +kernel)) (fun _ _ _ _ _ => (pg_name (i := 13) scPr2.nd rfl (Or.inl rfl))) (fun _ _ _ _ _ => pts_nil) (fun _ _ _ _ _ => (pe_call GRP hr3 (by rfl) mRP kRP bRP .nil pass0 (pa_cons (pv 13) pa_nil)))) (pe_lst pa_nil)))
      (pss_mid (ps_set (i := 8) scPr2.nd rfl (Or.inl rfl) (pe_op op_cat (pe_lc (own := [("at", 10)]) (g := gName 10) (by rfl) scPr2.nd (pi_range1 (by rfl) B.rng (pa_cons (pe_callB call_len_seq (by rfl) B.len PySem.boot_len (pa_cons (pv 7) pa_nil)) pa_nil)) (blkOk_by (own := [("at", 10)]) (N := ["state", "plain", "words", "lap", "text", "more", "other", "pieces", "wrong", "raised", "at", "odd", "word", "piece"]) (sc := defScope sPR) (by decide +kernel)) (fun _ _ _ _ _ => (pg_name (i := 10) scPr2.nd rfl (Or.inl rfl))) (fun _ _ _ _ _ => (pts_one (pt_cmpR op_isN (pe_ix (show IxR _ (rIxL K) from ix_list) (pv 7) (pv 10) (fun _ _ => rfl)) pe_non (nomark _)))) (fun _ _ _ _ _ => (pv 10))) (pe_ifExp (pt_cmpR op_gt (pe_callB call_len_seq (by rfl) B.len PySem.boot_len (pa_cons (pv 7) pa_nil)) pe_int (nomark _)) (pe_lst (pa_cons pe_int pa_nil)) (pe_lst pa_nil))))
      (pss_mid (ps_set (i := 9) scPr2.nd rfl (Or.inl rfl) (pe_lamcall (k := 8) (by rfl) T.cgt T.kcgt lkg hcg bCgt scC rfl (Or.inl rfl) (caught_gives T.ce) TB rfl (List.mem_cons_of_mem _ (List.mem_cons_self ..)) (tbs_2 hne) hr (lamS_by (by show LamX.lamSB (defScope sPR) _ = true; decide +kernel)) rfl (fun _ _ _ _ _ => rfl)
              (fun A outer s H E f c' hr2 => pe_call GPO (hr2.mono (by decide)) (by rfl) mPO kPO bPO .nil (passes_call (takes_of rfl rfl rfl rfl) (fun _ _ _ _ h => h)) (pa_cons (pv 6) pa_nil))))
      (pss_mid (ps_if (pt_cmpR (op_neNil hr.units) (pv 8) (pe_lst pa_nil) (nomark _)) (pss_one (ps_if (PW.pt (pw_or (pt_not (pt_val (pe_callB (call_isH E1.exc) (by rfl) B.isi (by decide +kernel) (pa_cons (pv 9) (pa_cons (pe_glob (v := .ref C1) (by rfl) E1.m rfl) pa_nil))))) (pw_or1 (pt_cmpR op_ne (pe_xh Y1.xf Y1.ni (pv 9)) (pe_ix ix_list (pv 8) pe_int (fun _ _ => rfl)) (nomark _))))) (pss_one (ps_ret pe_bl)) pss_nil)) (pss_one (ps_if (PW.pt (pw_or (pt_cmpR op_notN (pv 9) pe_non (nomark _)) (pw_or1 (pt_cmpR (op_neD hr.units) (pe_call GPO hr5 (by rfl) mPO kPO bPO .nil passL (pa_cons (pv 6) pa_nil)) (pv 7) (nomark _))))) (pss_one (ps_ret pe_bl)) pss_nil)))
      (pss_cons (ps_set (i := 9) scPr2.nd rfl (Or.inl rfl) (pe_lamcall (k := 8) (by rfl) T.cgt T.kcgt lkg hcg bCgt scC rfl (Or.inl rfl) (caught_gives T.ce) TB rfl (List.mem_cons_of_mem _ (List.mem_cons_self ..)) (tbs_2 hne) hr (lamS_by (by show LamX.lamSB (defScope sPR) _ = true; decide +kernel)) rfl (fun _ _ _ _ _ => rfl)
              (fun A outer s H E f c' hr2 => pe_call GPO (hr2.mono (by decide)) (by rfl) mPO kPO bPO .nil (passes_call (takes_of rfl rfl rfl rfl) (fun _ _ _ _ h => h)) (pa_cons (pe_call GP (hr2.mono (by decide)) (by rfl) mP kP bP .nil pass0 (pa_cons (pv 0) (pa_cons (pe_lst (pa_cons pe_non (pa_cons pe_int (pa_cons (pv 2) (pa_cons (pe_tup (pa_cons pe_str pa_nil)) (pa_cons pe_bl pa_nil)))))) pa_nil))) pa_nil))))
      (pss_cons (ps_if (PW.pt (pw_or (pt_not (pt_val (pe_callB (call_isH E1.exc) (by rfl) B.isi (by decide +kernel) (pa_cons (pv 9) (pa_cons (pe_glob (v := .ref C1) (by rfl) E1.m rfl) pa_nil))))) (pw_or1 (pt_cmpR op_notN (pe_xh Y1.xf Y1.ni (pv 9)) pe_non (nomark _))))) (pss_one (ps_ret pe_bl)) pss_nil)
      (pss_cons (ps_asg (pe_tup (pa_cons (pe_call GD hr2' (by rfl) mD kD bD .nil pass0 (pa_cons (pv 0) (pa_cons (pe_op op_add (pe_callB call_len_seq (by rfl) B.len PySem.boot_len (pa_cons (pv 2) pa_nil)) pe_int) pa_nil))) (pa_cons (pe_call GP hr3 (by rfl) mP kP bP .nil pass0 (pa_cons (pv 0) (pa_cons (pe_lst (pa_cons pe_non (pa_cons pe_str (pa_cons (pe_tup (pa_cons pe_str pa_nil)) (pa_cons (pe_tup (pa_cons pe_str (pa_cons (pe_tup (pa_cons pe_int (pa_cons pe_int (pa_cons (pe_tup pa_nil) pa_nil)))) pa_nil))) (pa_cons (pe_lst (pa_cons pe_str pa_nil)) (pa_cons (pe_tup (pa_cons pe_str pa_nil)) (pa_cons (pe_tup (pa_cons pe_str (pa_cons (pe_tup (pa_cons pe_int (pa_cons pe_int pa_nil))) pa_nil))) (pa_cons (pe_tup pa_nil) pa_nil))))))))) pa_nil))) pa_nil))) (pg_tup (by rfl) (pgs_cons (pg_name (i := 10) scPr2.nd rfl (Or.inr rfl)) (pgs_cons (pg_name (i := 11) scPr2.nd rfl (Or.inr rfl)) pgs_nil))))
      (pss_mid (ps_set (i := 9) scPr2.nd rfl (Or.inl rfl) (pe_lamcall (k := 8) (by rfl) T.cgt T.kcgt lkg hcg bCgt scC rfl (Or.inl rfl) (caught_gives T.ce) TB rfl (List.mem_cons_of_mem _ (List.mem_cons_self ..)) (tbs_2 hne) hr (lamS_by (by show LamX.lamSB (defScope sPR) _ = true; decide +kernel)) rfl (fun _ _ _ _ _ => rfl)
              (fun A outer s H E f c' hr2 => pe_call GPT (hr2.mono (by decide)) (by rfl) mPT kPT bPT .nil (passes_call (takes_of rfl rfl rfl rfl) (fun _ _ _ _ h => h)) (pa_cons (pe_slice (show SlR _ (rSlL K) from sl_list) (pe_op op_cat (pe_op op_cat (pe_slice (show SlR _ (rSlL K) from sl_list) (pv 2) po_none (po_some (pv 10))) (pe_lst (pa_cons (pv 11) pa_nil))) (pe_slice (show SlR _ (rSlL K) from sl_list) (pv 2) (po_some (pv 10)) po_none)) po_none (po_some pe_int)) pa_nil))))
      (pss_mid (ps_if (PW.pt (pw_and (pt_cmpR op_lt (pv 10) pe_int (nomark _)) (pw_and1 (PW.pt (pw_or (pt_not (pt_val (pe_callB (call_isH E2.exc) (by rfl) B.isi (by decide +kernel) (pa_cons (pv 9) (pa_cons (pe_glob (v := .ref C2) (by rfl) E2.m rfl) pa_nil))))) (pw_or1 (pt_cmpR op_ne (pe_xh Y2.xf Y2.ni (pv 9)) (pv 10) (nomark _)))))))) (pss_one (ps_ret pe_bl)) pss_nil)
      (pss_cons (ps_set (i := 9) scPr2.nd rfl (Or.inl rfl) (pe_lamcall (k := 8) (by rfl) T.cgt T.kcgt lkg hcg bCgt scC rfl (Or.inl rfl) (caught_gives T.ce) TB rfl (List.mem_cons_of_mem _ (List.mem_cons_self ..)) (tbs_2 hne) hr (lamS_by (by show LamX.lamSB (defScope sPR) _ = true; decide +kernel)) rfl (fun _ _ _ _ _ => rfl)
              (fun A outer s H E f c' hr2 => pe_call GPT (hr2.mono (by decide)) (by rfl) mPT kPT bPT .nil (passes_call (takes_of rfl rfl rfl rfl) (fun _ _ _ _ h => h)) (pa_cons (pe_call GP (hr2.mono (by decide)) (by rfl) mP kP bP .nil pass0 (pa_cons (pv 0) (pa_cons (pe_lst (pa_cons pe_non (pa_cons (pv 4) (pa_cons pe_int (pa_cons (pe_op op_rep (pe_lst (pa_cons (pe_tup (pa_cons pe_str pa_nil)) pa_nil)) pe_int) (pa_cons pe_dnewK pa_nil)))))) pa_nil))) pa_nil))))
      (pss_one (ps_ret (pe_and (pe_callB (call_isH E2.exc) (by rfl) B.isi (by decide +kernel) (pa_cons (pv 9) (pa_cons (pe_glob (v := .ref C2) (by rfl) E2.m rfl) pa_nil))) (pe_one (pe_cmpR op_eq (pe_xh Y2.xf Y2.ni (pv 9)) (pe_un un_neg pe_int) (nomark _)))))))))))))))))))))), ?_⟩
    refine ⟨(by show 6 ≤ sizeLine; decide), fun pl hpl => ?_⟩
    generalize hH1 : upd H pl _ = H1
    obtain ⟨spl, epl⟩ := freshF hpl hH1
    refine ⟨Nat.zero_le _, fun wl hwl => ?_⟩
    generalize hH2 : upd H1 wl _ = H2
    obtain ⟨swl, ewl⟩ := freshF hwl hH2
    refine ⟨(by show 2 ≤ sizeLine; decide), fun tp htp => ?_⟩
    generalize hH3 : upd H2 tp _ = H3
    obtain ⟨stp, etp⟩ := freshF htp hH3
    have S3 := S.keep ((spl.trans swl).trans stp)
    have X3 := hT.ext ((spl.trans swl).trans stp)
    have ep3 := stp _ _ (swl _ _ epl)
    have ew3 := stp _ _ ewl
    have fp := S.free hpl
    have fw := (S.keep spl).free hwl
    have nwp : wl ≠ pl := fun z => by rw [z, epl] at hwl; cases hwl
    refine ⟨tp, _, rfl, SqT.of etp, rfl, _, _, rfl, _, _, rfl, rfl, ?_⟩
    -- the words
    refine ⟨_, rfl, (by show 5 ≤ sizeLine; decide), fun q0 hq0 => ?_⟩
    generalize hH4 : upd H3 q0 _ = H4
    obtain ⟨sq0, eq0⟩ := freshF hq0 hH4
    have S4 := S3.keep sq0
    refine ⟨d, g, c, q0, _, _, rfl, S4, by omega, eq0, (S3.free hq0).2.1, by simp, (by show 5 ≤ 1000000; decide), fun v H5 hv S5 kp5 => ?_⟩
    obtain ⟨m, rfl, hm⟩ : ∃ m : Nat, v = .int (m : Nat) ∧ m ≤ 40 := by
      simp only [List.mem_cons, List.not_mem_nil, or_false] at hv
      rcases hv with rfl | rfl | rfl | rfl | rfl
      · exact ⟨2, rfl, by decide⟩
      · exact ⟨0, rfl, by decide⟩
      · exact ⟨5, rfl, by decide⟩
      · exact ⟨1, rfl, by decide⟩
      · exact ⟨40, rfl, by decide⟩
    have ep5 := kp5 _ _ (sq0 _ _ ep3) fp.1 fp.2.1
    have ew5 := kp5 _ _ (sq0 _ _ ew3) fw.1 fw.2.1
    have X5 := tabs_kp (X3.ext sq0) S4 kp5
    refine ⟨_, rfl, by omega, by omega, for_range (lo := 0) (n := ((m : Nat) : Int).toNat)
      (fun i σ H' => ∃ (lv : Option V) (ps : List PW), σ = [some (.ref d), some (.ref pl), some (.ref wl), lv, none, none, none, none, none, none, none, none, none, none] ∧ WSt wl H' ps ∧ ps.length = i ∧ H' pl = some (.lst (plain6.map V.str)) ∧ StA H' d g c (n + 1 + 90 * i) ∧ Tabs (tbs T1 T2) H')
      ⟨none, [], rfl, ⟨[], ew5, fun g' => .nil, fun q hq => by cases hq⟩, rfl, ep5, S5, X5⟩ ?_ ?_⟩
    · rintro i σ H1 hi ⟨lv, ps, rfl, W1, hps, ep1, S1, X1⟩
      have hi40 : i < 40 := by
        rw [Int.toNat_natCast] at hi
        omega
      -- (pick,)
      have ew1 := W1
      obtain ⟨ws1, ew1, _, _⟩ := ew1
      refine ⟨_, rfl, .inl ⟨rfl, _, SqL.of ew1⟩, _, rfl, _, rfl, _, rfl, d, g, c, pl, _, _, rfl, S1, by omega, ep1, fp.2.1, by simp [plain6], (by show 6 ≤ 1000000; decide), fun v H2 hv S2 kp2 => ?_⟩
      obtain ⟨pw, hpw, rfl⟩ := List.mem_map.mp hv
      have X2 := tabs_kp X1 S1 kp2
      have W2 := W1.kp S1 kp2 fw.1 fw.2.1
      have ep2 := kp2 _ _ ep1 fp.1 fp.2.1
      refine ⟨(by show 1 ≤ sizeLine; decide), fun t1 ht1 => ?_⟩
      generalize hH3 : upd H2 t1 _ = H3
      obtain ⟨st1, et1⟩ := freshF ht1 hH3
      -- ('lay', label)
      refine ⟨_, rfl, d, g, c, _, rfl, S2.keep st1, by omega, fun v1 L1 H4 ok1 S4 kp4 hv1 => ?_⟩
      have et14 := kp4 _ _ et1 (S2.free ht1).1 (S2.free ht1).2.1
      refine ⟨(by show 2 ≤ sizeLine; decide), fun t2 ht2 => ?_⟩
      generalize hH5 : upd H4 t2 _ = H5
      obtain ⟨st2, et2⟩ := freshF ht2 hH5
      -- ('peel', label)
      refine ⟨_, rfl, d, g, c, _, rfl, S4.keep st2, by omega, fun v2 L2 H6 ok2 S6 kp6 hv2 => ?_⟩
      have et26 := kp6 _ _ et2 (S4.free ht2).1 (S4.free ht2).2.1
      have et16 := kp6 _ _ (st2 _ _ et14) (S2.free ht1).1 (S2.free ht1).2.1
      refine ⟨(by show 2 ≤ sizeLine; decide), fun t3 ht3 => ?_⟩
      generalize hH7 : upd H6 t3 _ = H7
      obtain ⟨st3, et3⟩ := freshF ht3 hH7
      refine ⟨(by show 3 ≤ sizeLine; decide), fun q1 hq1 => ?_⟩
      generalize hH8 : upd H7 q1 _ = H8
      obtain ⟨sq1, eq1⟩ := freshF hq1 hH8
      have s68 := st3.trans sq1
      have S8 := S6.keep s68
      refine ⟨d, g, c, q1, _, _, rfl, S8, by omega, eq1, ((S6.keep st3).free hq1).2.1, by simp, (by show 3 ≤ 1000000; decide), fun v H9 hv S9 kp9 => ?_⟩
      have s27 : Kp d g H1 H8 := kp2.trans ((Kp.of st1).trans (kp4.trans ((Kp.of st2).trans (kp6.trans (Kp.of s68)))))
      have k19 := s27.trans kp9
      have t39 : ∀ b xs, H3 b = some (.tup xs) → H9 b = some (.tup xs) := fun b xs e => Kt.kp S8 kp9 _ _ (s68 _ _ (Kt.kp (S4.keep st2) kp6 _ _ (st2 _ _ (Kt.kp (S2.keep st1) kp4 _ _ e))))
      obtain ⟨q, hq, hv9⟩ : ∃ q, okW q ∧ ∀ g', DV g' H9 v (wordD q) := by
        simp only [List.mem_cons, List.not_mem_nil, or_false] at hv
        rcases hv with rfl | rfl | rfl
        · exact ⟨.pl pw, hpw, fun g' => .tup (t39 _ _ et1) (by show 1 ≤ 1000; decide) (.cons (.str (by have := (plain_free _ hpw).2.1; omega)) .nil)⟩
        · refine ⟨.lb "lay" L1, lay_word ok1, fun g' => .tup (Kt.kp S8 kp9 _ _ (s68 _ _ (Kt.kp (S4.keep st2) kp6 _ _ et2))) (by show 2 ≤ 1000; decide) (.cons (.str (by decide +kernel)) (.cons ?_ .nil))⟩
          exact DV.keepP (g := 0) (fun b xs e => Kt.kp S8 kp9 _ _ (s68 _ _ (Kt.kp (S4.keep st2) kp6 _ _ (st2 _ _ e)))) (lab_pur L1) (hv1 0)
        · refine ⟨.lb "peel" L2, peel_word ok2, fun g' => .tup (Kt.kp S8 kp9 _ _ (sq1 _ _ et3)) (by show 2 ≤ 1000; decide) (.cons (.str (by decide +kernel)) (.cons ?_ .nil))⟩
          exact DV.keepP (g := 0) (fun b xs e => Kt.kp S8 kp9 _ _ (s68 _ _ e)) (lab_pur L2) (hv2 0)
      obtain ⟨ws9, ew9, rw9, okw9⟩ := WSt.mono (H := H1) (H' := H9) (fun b xs e => Kt.kp S8 kp9 _ _ (s68 _ _ (Kt.kp (S4.keep st2) kp6 _ _ (st2 _ _ (Kt.kp (S2.keep st1) kp4 _ _ (st1 _ _ (Kt.kp S1 kp2 _ _ e))))))) (fun xs e => k19 _ _ e fw.1 fw.2.1) W1
      have ep9 := k19 _ _ ep1 fp.1 fp.2.1
      have X9 : Tabs (tbs T1 T2) H9 := tabs_kp ((tabs_kp ((tabs_kp (X2.ext st1) (S2.keep st1) kp4).ext st2) (S4.keep st2) kp6).ext s68) S8 kp9
      have hlw : ws9.length = i := by rw [(rw9 0).len, List.length_map, hps]
      refine ⟨wl, ws9, v, rfl, rfl, ew9, by rw [hlw, sizeLine_eq]; omega, ?_⟩
      have ktp : Kt H9 (upd H9 wl (HO.lst (ws9 ++ [v]))) := Kt.put ew9
      refine ⟨_, ps ++ [q], rfl, ⟨ws9 ++ [v], upd_same, fun g' => ?_, ?_⟩, by rw [List.length_append, hps]; rfl, ?_, ?_, tabs_put X9 ew9⟩
      · rw [List.map_append]
        exact DVs.app (DVs.keepP (g := 0) ktp (purs_words okw9) (rw9 0)) (.cons (DV.keepP (g := 0) ktp (word_pur hq) (hv9 0)) .nil)
      · intro x hx
        rcases List.mem_append.mp hx with hx | hx
        · exact okw9 x hx
        · rw [List.mem_singleton.mp hx]
          exact hq
      · rw [upd_ne nwp.symm]
        exact ep9
      · exact (S9.upF fw.1 fw.2.1 fw.2.2).mono (by omega)
    rintro σ H1 ⟨lv, ps, rfl, W1, hps, ep1, S1, X1⟩
    rw [Int.toNat_natCast] at hps S1
    have h40 : ps.length ≤ 40 := by omega
    obtain ⟨ws, ew1, rw1, okw⟩ := id W1
    have hlw : ws.length = ps.length := by rw [(rw1 0).len, List.length_map]
    clear kp5 ep5 ew5 X5 S5 ep3 ew3 S3 X3 S4
    -- text
    have tlen := txt_len okw h40
    have tlen' : (Txt.join (Str.ofString " ") (ps.map wordT)).length ≤ 3080 := tlen
    refine ⟨⟨_, rfl⟩, _, rfl, wl, rfl, ⟨_, SqL.of ew1⟩, lc_dvT (l := ps) (Df := wordD) (Tf := wordT) (i := 12) (vs := [12]) (walk_list (K := K) (a := wl) (xs := ws)) (fun H' s' => SqL.of (s' _ _ ew1)) (rw1 g) (by omega) (fun x => rfl) ?_ ?_⟩
    · intro p x H2 R hp hx hR
      cases p with
      | pl s =>
        obtain ⟨b, xs, rfl, eb, _, r⟩ := hx.tup_inv
        obtain ⟨y, zs, rfl, hy, hz⟩ := r.inv
        obtain ⟨rfl, _⟩ := hy.str_inv
        cases hz
        refine ⟨_, rfl, b, _, rfl, .inr (SqT.of eb), rfl, _, rfl, ifT rfl ?_⟩
        exact ⟨_, rfl, b, _, 0, _, rfl, rfl, SqT.of eb, atI_nat (j := 0) rfl, hR H2 (Same.refl _)⟩
      | lb w0 L =>
        obtain ⟨b, vx, vy, rfl, eb, h1, h2⟩ := hx.tup2
        obtain ⟨rfl, _⟩ := h1.str_inv
        have ok2 := okw _ hp
        have hwl2 := (lab2_free _ ok2.1).2.1
        have hll := (labT_len ok2.2).1
        have hc1 : (Str.ofString ":").length = 1 := by decide +kernel
        refine ⟨_, rfl, b, _, rfl, .inr (SqT.of eb), rfl, _, rfl, ifF rfl ?_⟩
        refine ⟨_, rfl, b, _, 0, _, rfl, rfl, SqT.of eb, atI_nat (j := 0) rfl, _, _, rfl, rfl, by rw [hc1, sizeLine_eq]; omega, ?_⟩
        refine ⟨_, rfl, b, _, 1, _, rfl, rfl, SqT.of eb, atI_nat (j := 1) rfl, g, vy, L, rfl, h2, ok2.2, fun H3 s3 => ?_⟩
        exact ⟨_, _, rfl, rfl, by rw [app_len, hc1, sizeLine_eq]; omega, hR H3 s3⟩
    intro Dj H2 s2 eDj
    refine ⟨_, Dj, ps.map wordT, rfl, rfl, .inl (SqL.of eDj), ?_, ?_⟩
    · have hsum : ((ps.map wordT).map (·.length)).sum ≤ (ps.map wordT).length * 76 := sum_lens fun x hx => by
        obtain ⟨p, hp, rfl⟩ := List.mem_map.mp hx
        exact wordT_len (okw p hp)
      rw [List.length_map] at hsum ⊢
      rw [show (Str.ofString " ").length = 1 from sp_len]
      omega
    have S2 := S1.keep s2
    have X2 := X1.ext s2
    have W2 := W1.keep s2
    obtain ⟨ws2, ew2, rw2, _⟩ := id W2
    have hw2 : ws2 = ws := by
      have := ew2.symm.trans (s2 _ _ ew1)
      simpa using this
    subst hw2
    have hwF : ∀ l, seqOf (.lst (ps.map wordD)) = some l → ∀ x ∈ l, wordF x = true := fun l hl x hx => by
      obtain rfl : ps.map wordD = l := Option.some.inj hl
      obtain ⟨q, hq, rfl⟩ := List.mem_map.mp hx
      exact (wordB_of (okw q hq)).2
    have hlD : (ps.map wordD).length ≤ 1000 := by rw [List.length_map]; omega
    -- passes_text(words=words) != text
    refine ⟨_, rfl, g, .ref wl, .lst (ps.map wordD), rfl, .lst ew2 fw.2.1 hlD (rw2 g), hwF, .inl ⟨ps, rfl, okw, h40, fun H3 s3 => ?_⟩⟩
    have htt : (!decide (V.str (txt ps) = V.str (txt ps))) = false := by simp
    refine ⟨_, rfl, rfl, _, rfl, ifF htt ?_⟩
    -- passes_text(tuple(words)) != text
    refine ⟨_, rfl, wl, ws2, rfl, .inl ⟨SqL.of (s3 _ _ ew2), fun tq htq => ?_⟩⟩
    generalize hH4 : upd H3 tq _ = H4
    obtain ⟨stq, etq⟩ := freshF htq hH4
    have s24 := s3.trans stq
    refine ⟨g, .ref tq, .tup (ps.map wordD), rfl, .tup etq hlD ((rw2 g).keep (Kv.of s24)), (fun l hl => hwF l hl), .inl ⟨ps, rfl, okw, h40, fun H5 s5 => ?_⟩⟩
    refine ⟨_, rfl, rfl, _, rfl, ifF htt ?_⟩
    have s25 := s24.trans s5
    -- passes_of(text=text) != words
    have hpe := poE_text okw h40
    have hpw := poW_text okw
    have same : ∀ ps' : List PW, poW (txt ps) = ps'.map some → ps = ps' := fun ps' h => (List.map_inj_right (fun _ _ h => Option.some.inj h)).mp (hpw.symm.trans h)
    have hpur := purs_words okw
    have hdep : deps (ps.map wordD) ≤ 63 := Nat.le_trans (deps_map (k := 4) fun q _ => word_dep q) (by decide)
    refine ⟨_, rfl, g, _, .str (txt ps), rfl, .str (by show (txt ps).length ≤ 10000; omega), .inr ⟨txt ps, rfl, (fun i hi => by rw [hpe] at hi; cases hi), fun _ ps' D ys H6 hps' s6 hD eD hy => ?_⟩⟩
    obtain rfl := same ps' hps'
    have s26 := s25.trans s6
    have hsl := shaped_lst hpur hdep
    refine ⟨_, rfl, .list (toPys (ps.map wordD)), .list (toPys (ps.map wordD)), .lst (SqL.of eD) (dvs_dp hpur (hy g)), .lst (SqL.of (s26 _ _ ew2)) (dvs_dp hpur ((rw2 g).keep (Kv.of s26))), hsl, hsl, _, rfl, ?_⟩
    refine ifF (by rw [eqv_lst hpur]; rfl) ?_
    -- isinstance(passes_of(text), list)
    refine ⟨_, rfl, g, _, .str (txt ps), rfl, .str (by show (txt ps).length ≤ 10000; omega), .inr ⟨txt ps, rfl, (fun i hi => by rw [hpe] at hi; cases hi), fun _ ps3 D3 ys3 H7 hps3 s7 hD3 eD3 hy3 => ?_⟩⟩
    refine ⟨_, _, _, _, _, rfl, .ty "list", .base (.lst eD3), kit_ty (show kitB "list" "list" = some true by decide +kernel), _, rfl, ifF rfl ?_⟩
    have s27 := s26.trans s7
    have S7 := S2.keep s27
    have X7 := X2.ext s27
    have W7 := W2.keep s27
    clear hy3 eD3 hy eD
    -- more
    refine ⟨_, rfl, (by show 3 ≤ sizeLine; decide), fun q2 hq2 => ?_⟩
    generalize hH8 : upd H7 q2 _ = H8
    obtain ⟨sq2, eq2⟩ := freshF hq2 hH8
    have S8 := S7.keep sq2
    refine ⟨d, g, c, q2, _, _, rfl, S8, by omega, eq2, (S7.free hq2).2.1, by simp, (by show 3 ≤ 1000000; decide), fun v H9 hv S9 kp9 => ?_⟩
    obtain ⟨j, rfl, hj1, hj2, hjl⟩ : ∃ j : Int, v = .int j ∧ 1 ≤ j ∧ j ≤ 1000 ∧ (Txt.mul (" fold" : Str) j).length ≤ 200 := by
      simp only [List.mem_cons, List.not_mem_nil, or_false] at hv
      rcases hv with rfl | rfl | rfl
      · exact ⟨1, rfl, by decide, by decide, by decide +kernel⟩
      · exact ⟨5, rfl, by decide, by decide, by decide +kernel⟩
      · exact ⟨40, rfl, by decide, by decide, by decide +kernel⟩
    have W9 := (W7.keep sq2).kp S8 kp9 fw.1 fw.2.1
    have X9 := tabs_kp (X7.ext sq2) S8 kp9
    refine ⟨_, _, rfl, rfl, hj1, hj2, by decide +kernel, ?_⟩
    refine ⟨_, rfl, (by show 4 ≤ sizeLine; decide), fun q3 hq3 => ?_⟩
    generalize hHa : upd H9 q3 _ = Ha
    obtain ⟨sq3, eq3⟩ := freshF hq3 hHa
    have Sa := S9.keep sq3
    refine ⟨d, g, c, q3, _, _, rfl, Sa, by omega, eq3, (S9.free hq3).2.1, by simp, (by show 4 ≤ 1000000; decide), fun v Hb hv Sb kpb => ?_⟩
    obtain ⟨y, rfl, hy⟩ : ∃ y : Str, v = .str y ∧ y.length ≤ 5 := by
      simp only [List.mem_cons, List.not_mem_nil, or_false] at hv
      rcases hv with rfl | rfl | rfl | rfl
      · exact ⟨_, rfl, by decide +kernel⟩
      · exact ⟨_, rfl, by decide +kernel⟩
      · exact ⟨_, rfl, by decide +kernel⟩
      · exact ⟨_, rfl, by decide +kernel⟩
    have Wb := (W9.keep sq3).kp Sa kpb fw.1 fw.2.1
    have Xb := tabs_kp (X9.ext sq3) Sa kpb
    have ldd : (Str.ofString " dead dead").length = 10 := by decide +kernel
    have hjl' : (Txt.mul (Str.ofString " fold") j).length ≤ 200 := hjl
    refine ⟨_, _, rfl, rfl, by rw [sizeLine_eq]; omega, _, _, rfl, rfl, by rw [app_len, sizeLine_eq]; omega, ?_⟩
    have hml : ((Txt.mul (Str.ofString " fold") j ++ y) ++ Str.ofString " dead dead").length ≤ 215 := by rw [app_len, app_len]; omega
    generalize (Txt.mul (Str.ofString " fold") j ++ y) ++ Str.ofString " dead dead" = more at *
    clear hjl hjl' hy hj1 hj2
    -- other
    refine ⟨_, rfl, _, rfl, _, rfl, d, g, c, _, txt ps, rfl, Sb, by omega, by omega, fun z1 Hc hz1 Sc kpc => ?_⟩
    have Wc := Wb.kp Sb kpc fw.1 fw.2.1
    have Xc := tabs_kp Xb Sb kpc
    have lf : (Str.ofString " fold").length = 5 := by decide +kernel
    have l2 : (Str.ofString "  ").length = 2 := by decide +kernel
    refine ⟨_, rfl, _, _, rfl, rfl, by rw [sizeLine_eq]; omega, ?_⟩
    refine ⟨_, rfl, _, _, rfl, rfl, by rw [sizeLine_eq]; omega, ?_⟩
    refine ⟨_, rfl, _, rfl, d, g, c, _, txt ps, rfl, Sc, by omega, by omega, fun z2 Hd hz2 Sd kpd => ?_⟩
    have Wd := Wc.kp Sc kpd fw.1 fw.2.1
    have Xd := tabs_kp Xc Sc kpd
    refine ⟨_, rfl, _, rfl, _, _, rfl, rfl, by rw [sizeLine_eq]; omega, ?_⟩
    refine ⟨(by show 5 ≤ sizeLine; decide), fun q4 hq4 => ?_⟩
    generalize hHe : upd Hd q4 _ = He
    obtain ⟨sq4, eq4⟩ := freshF hq4 hHe
    have Se := Sd.keep sq4
    refine ⟨d, g, c, q4, _, _, rfl, Se, by omega, eq4, (Sd.free hq4).2.1, by simp, (by show 5 ≤ 1000000; decide), fun v H1 hv S1 kp1 => ?_⟩
    have W1 := (Wd.keep sq4).kp Se kp1 fw.1 fw.2.1
    have X1 := tabs_kp (Xd.ext sq4) Se kp1
    obtain ⟨z, rfl, hz⟩ : ∃ z : Str, v = .str z ∧ z.length ≤ 4000 := by
      simp only [List.mem_cons, List.not_mem_nil, or_false] at hv
      rcases hv with rfl | rfl | rfl | rfl | rfl
      · exact ⟨_, rfl, by omega⟩
      · exact ⟨_, rfl, by rw [app_len]; omega⟩
      · exact ⟨_, rfl, by rw [app_len]; omega⟩
      · exact ⟨_, rfl, by omega⟩
      · exact ⟨_, rfl, by rw [app_len]; omega⟩
    clear eq4 hq4 sq4 Se hz2 hz1 eq3 hq3 eq2 hq2
    -- pieces
    refine ⟨fun σ H' => ∃ pp : Addr, σ = [some (.ref d), some (.ref pl), some (.ref wl), lv, some (.str (txt ps)), some (.str more), some (.str z), some (.ref pp), none, none, none, none, none, none] ∧ WSt wl H' ps ∧ PSt pp H' z ∧ StA H' d g c (n + 4000) ∧ Tabs (tbs T1 T2) H', ?_, ?_⟩
    · refine ⟨_, rfl, rfl, _, rfl, ?_⟩
      by_cases h0 : tl z = []
      · obtain rfl : z = ("" : Str) := str_ext (by rw [h0, emp_tl])
        refine ifF (by simp) ?_
        refine ⟨Nat.zero_le _, fun p hp => ?_⟩
        generalize hH2 : upd H1 p _ = H2
        obtain ⟨sp, ep⟩ := freshF hp hH2
        exact ⟨p, rfl, W1.keep sp, ⟨[], ep, fun g' => .nil⟩, (S1.keep sp).mono (by omega), X1.ext sp⟩
      · have hne : z ≠ ("" : Str) := fun e => h0 (by rw [e]; exact emp_tl)
        refine ifT (by rw [Bool.not_eq_true']; exact decide_eq_false fun e => hne (by injection e)) ?_
        refine ⟨_, rfl, ⟨_, rfl⟩, z, spS1, rfl, rfl, (by decide +kernel), (by rw [sizeLine_eq]; omega), fun p hp => ?_⟩
        generalize hH2 : upd H1 p _ = H2
        obtain ⟨sp, ep⟩ := freshF hp hH2
        have hms : (Txt.split z spS1).map tl = piecesOf (tl z) := by
          unfold piecesOf
          rw [if_neg h0]
          exact split_spS tl_sp (by decide)
        have hlz := TL.len_tl z
        have hpl : (Txt.split z spS1).length ≤ 10001 ∧ ∀ y ∈ Txt.split z spS1, y.length ≤ 10000 := by
          obtain ⟨h1, h2⟩ := spS_parts 32 (tl z)
          have hl : (Txt.split z spS1).length = (piecesOf (tl z)).length := by rw [← hms, List.length_map]
          have e : piecesOf (tl z) = spS 32 (tl z) := if_neg h0
          rw [e] at hl hms
          refine ⟨by omega, fun y hy => ?_⟩
          have := h2 (tl y) (by rw [← hms]; exact List.mem_map.mpr ⟨y, hy, rfl⟩)
          rw [TL.len_tl]
          omega
        have hpo : poW z = (Txt.split z spS1).map lawWord := by
          rw [← poW_law, ← hms, List.map_map]
          refine List.map_congr_left fun y _ => ?_
          show lawWord (mkS (tl y)) = lawWord y
          rw [mkS_tl]
        have hpu := poW_pur z
        rw [hpo, List.map_map] at hpu
        refine ⟨p, rfl, ⟨_, SqL.of ep⟩, ?_⟩
        refine lc_strsD (K := K) (F := fun y => oD wordD (lawWord y)) (i := 13) (vs := [13]) (fun y hy => purs_mem hpu (List.mem_map.mpr ⟨y, hy, rfl⟩)) (by omega) ep (fun x => rfl) ?_ ?_
        · intro y H4 R hy s4 hR
          exact ⟨_, rfl, y, rfl, hpl.2 y hy, fun v H5 s5 hv => hR v H5 s5 hv⟩
        intro D H5 ys s5 hD eD hv
        refine ⟨D, rfl, W1.keep (sp.trans s5), ⟨ys, eD, fun g' => ?_⟩, (S1.keep (sp.trans s5)).mono (by omega), X1.ext (sp.trans s5)⟩
        rw [hpo, List.map_map]
        exact hv g'
    clear W1 X1 S1
    rintro σ H1 ⟨pp, rfl, W1, P1, S1, X1⟩
    -- wrong
    refine ⟨fun σ H' => ∃ wp : Addr, σ = [some (.ref d), some (.ref pl), some (.ref wl), lv, some (.str (txt ps)), some (.str more), some (.str z), some (.ref pp), some (.ref wp), none, none, none, none, none] ∧ H' wp = some (.lst (wr (poW z))) ∧ WSt wl H' ps ∧ PSt pp H' z ∧ StA H' d g c (n + 4000) ∧ Tabs (tbs T1 T2) H', ?_, ?_⟩
    · obtain ⟨ys, epp, ry⟩ := id P1
      have hyl : ys.length = (poW z).length := by rw [(ry 0).len, List.length_map]
      have hzl : (poW z).length ≤ 4001 := by
        unfold poW
        rw [List.length_map]
        have h1 := (spS_parts 32 (tl z)).1
        have h2 := TL.len_tl z
        unfold piecesOf
        by_cases h0 : tl z = []
        · rw [if_pos h0]
          exact Nat.zero_le _
        · rw [if_neg h0]
          omega
      refine ⟨_, rfl, pp, ys, rfl, .inl (SqL.of epp), ?_⟩
      refine ⟨_, rfl, by omega, by omega, ?_⟩
      intro D hD
      refine lc_it (walk_range (lo := 0) (n := ((ys.length : Nat) : Int).toNat)) (fun i H' => H' D = some (.lst ((noneIx (poW z) i).map fun n : Nat => V.int (n : Nat))) ∧ Same H1 H') ⟨upd_same, same_new hD⟩ (fun _ _ _ _ => trivial) ?_ ?_
      · rintro i x H2z H2 hi ⟨h4, s2⟩ ⟨rfl, rfl⟩
        rw [Int.toNat_natCast] at hi
        refine ⟨rfl, ?_⟩
        obtain ⟨v, hv⟩ : ∃ v, ys[i]? = some v := ⟨ys[i], List.getElem?_eq_getElem hi⟩
        refine ⟨_, rfl, _, rfl, pp, ys, i, v, rfl, (by show V.int (0 + (i : Int)) = _; rw [Int.zero_add]), SqL.of (s2 _ _ epp), atI_nat hv, rfl, _, rfl, ?_⟩
        have hlen : (noneIx (poW z) i).length ≤ i := by
          have := List.length_filter_le (isN (poW z)) (List.range i)
          rw [List.length_range] at this
          exact this
        cases hN : isN (poW z) i with
        | true =>
          refine ifT ((isN_at (ry 0) hv).trans hN) ?_
          refine ⟨_, rfl, _, h4, by rw [List.length_map, sizeLine_eq]; omega, ?_, ?_⟩
          · rw [upd_same, noneIx_s, if_pos hN, List.map_append]
            show some (HO.lst (_ ++ [V.int (0 + (i : Int))])) = _
            rw [Int.zero_add]
            rfl
          · intro b o eb
            rw [upd_ne (ne_of_none eb hD)]
            exact s2 _ _ eb
        | false =>
          refine ifF ((isN_at (ry 0) hv).trans hN) ⟨?_, s2⟩
          rw [noneIx_s, hN, h4]
          simp
      · rintro H2 ⟨h4, s2⟩
        rw [Int.toNat_natCast, hyl] at h4
        have hlen : (noneIx (poW z) (poW z).length).length ≤ (poW z).length := by
          have := List.length_filter_le (isN (poW z)) (List.range (poW z).length)
          rw [List.length_range] at this
          exact this
        refine ⟨_, rfl, pp, ys, rfl, .inl (SqL.of (s2 _ _ epp)), _, _, rfl, rfl, _, rfl, ?_⟩
        by_cases h : 40 < (poW z).length
        · refine ifT (decide_eq_true (by rw [hyl]; omega)) ?_
          refine ⟨(by show 1 ≤ sizeLine; decide), fun p hp => ?_⟩
          generalize hH3 : upd H2 p _ = H3
          obtain ⟨sp, ep⟩ := freshF hp hH3
          refine ⟨D, p, _, _, rfl, rfl, sp _ _ h4, ep, by rw [List.length_map, sizeLine_eq]; show _ + 1 ≤ _; omega, fun q hq => ?_⟩
          generalize hH4 : upd H3 q _ = H4
          obtain ⟨sq, eq⟩ := freshF hq hH4
          have s14 := (s2.trans sp).trans sq
          exact ⟨q, rfl, by rw [eq]; unfold wr; rw [if_pos h], W1.keep s14, P1.keep s14, S1.keep s14, X1.ext s14⟩
        · refine ifF (decide_eq_false (by rw [hyl]; omega)) ?_
          refine ⟨Nat.zero_le _, fun p hp => ?_⟩
          generalize hH3 : upd H2 p _ = H3
          obtain ⟨sp, ep⟩ := freshF hp hH3
          refine ⟨D, p, _, _, rfl, rfl, sp _ _ h4, ep, by rw [List.length_map, sizeLine_eq]; show _ + 0 ≤ _; omega, fun q hq => ?_⟩
          generalize hH4 : upd H3 q _ = H4
          obtain ⟨sq, eq⟩ := freshF hq hH4
          have s14 := (s2.trans sp).trans sq
          exact ⟨q, rfl, by rw [eq]; unfold wr; rw [if_neg h], W1.keep s14, P1.keep s14, S1.keep s14, X1.ext s14⟩
    clear W1 X1 S1 P1
    rintro σ H1 ⟨wp, rfl, ewp, W1, P1, S1, X1⟩
    -- raised
    refine ⟨fun σ H' => ∃ r : V, σ = [some (.ref d), some (.ref pl), some (.ref wl), lv, some (.str (txt ps)), some (.str more), some (.str z), some (.ref pp), some (.ref wp), some r, none, none, none, none] ∧ H' wp = some (.lst (wr (poW z))) ∧ WSt wl H' ps ∧ PSt pp H' z ∧ StA H' d g c (n + 4000) ∧ Tabs (tbs T1 T2) H' ∧
      ((∃ (i : Int) (a dd : Addr), poE z = some i ∧ r = .ref a ∧ H' a = some (exh a (.ref C1) (some dd)) ∧ H' dd = some (.xd [("index", .int i)])) ∨ (poE z = none ∧ r = .non)), ?_, ?_⟩
    · refine ⟨X1, fun H2 e2 X2 => ?_⟩
      have W2 := W1.extN e2
      have P2 := P1.extN e2
      have S2 := S1.extN e2
      have ew2 := e2 _ _ ewp (fun _ z => by cases z)
      refine ⟨_, rfl, g, _, .str z, rfl, .str (by omega), .inr ⟨z, rfl, fun i hi dd H3 s3 hdd => ?_, fun hn ps' D ys H3 hps' s3 hD eD hy => ?_⟩⟩
      · refine ⟨true, E1.exm, fun _ a ha => ?_, fun z => nomatch z⟩
        generalize hH4 : upd H3 a _ = H4
        obtain ⟨sa, ea⟩ := freshF ha hH4
        have s24 := s3.trans sa
        exact ⟨_, rfl, s24 _ _ ew2, W2.keep s24, P2.keep s24, S2.keep s24, X2.ext s24, .inl ⟨i, a, dd, hi, rfl, ea, sa _ _ hdd⟩⟩
      · exact ⟨_, rfl, s3 _ _ ew2, W2.keep s3, P2.keep s3, S2.keep s3, X2.ext s3, .inr ⟨hn, rfl⟩⟩
    clear W1 X1 S1 P1 ewp
    rintro σ H1 ⟨r, rfl, ewp, W1, P1, S1, X1, hr9⟩
    -- if wrong != []
    refine ⟨fun σ H' => ∃ r : V, σ = [some (.ref d), some (.ref pl), some (.ref wl), lv, some (.str (txt ps)), some (.str more), some (.str z), some (.ref pp), some (.ref wp), some r, none, none, none, none] ∧ WSt wl H' ps ∧ StA H' d g c (n + 4000) ∧ Tabs (tbs T1 T2) H', ?_, ?_⟩
    · refine ⟨_, rfl, Nat.zero_le _, fun e0 he0 => ?_⟩
      generalize hH2 : upd H1 e0 _ = H2
      obtain ⟨se0, ee0⟩ := freshF he0 hH2
      refine ⟨wp, e0, _, rfl, rfl, SqL.of (se0 _ _ ewp), SqL.of ee0, _, rfl, ?_⟩
      rcases wr_poE z with ⟨i, rr, hi, hw⟩ | ⟨hn, hw⟩
      · refine ifT (by rw [hw]; rfl) ?_
        rcases hr9 with ⟨i', a, dd, hi', rfl, ha, hdd⟩ | ⟨hn, _⟩
        rotate_left
        · rw [hi] at hn
          cases hn
        obtain rfl : i = i' := Option.some.inj (hi.symm.trans hi')
        have ha := se0 _ _ ha
        have hdd := se0 _ _ hdd
        refine ⟨_, rfl, a, dd, _, _, _, true, rfl, (fun u h => h), ha, hdd, kit_self, _, rfl, ifF rfl ?_⟩
        refine ⟨_, rfl, a, dd, _, _, rfl, ha, hdd, fs_index _, _, rfl, wp, _, 0, _, rfl, rfl, SqL.of (se0 _ _ ewp), atI_nat (j := 0) (by rw [hw]; rfl), rfl, _, rfl, ifF (by simp) ?_⟩
        exact ⟨_, rfl, W1.keep se0, S1.keep se0, X1.ext se0⟩
      · refine ifF (by rw [hw]; rfl) ?_
        rcases hr9 with ⟨i', a, dd, hi', rfl, ha, hdd⟩ | ⟨_, rfl⟩
        · rw [hn] at hi'
          cases hi'
        refine ⟨_, rfl, rfl, _, rfl, ifF rfl ?_⟩
        refine ⟨_, rfl, g, _, .str z, rfl, .str (by omega), .inr ⟨z, rfl, (fun i hi => by rw [hn] at hi; cases hi), fun _ ps' D ys H3 hps' s3 hD eD hy => ?_⟩⟩
        have s13 := se0.trans s3
        obtain ⟨yp, eyp, ryp⟩ := P1.keep s13
        have ee : (poW z).map (oD wordD) = ps'.map wordD := by
          rw [hps', List.map_map]
          rfl
        have hpz := poW_pur z
        have hdz : deps ((poW z).map (oD wordD)) ≤ 63 := Nat.le_trans (deps_o (k := 4) word_dep _) (by decide)
        rw [ee] at ryp hpz hdz
        have hsz := shaped_lst hpz hdz
        refine ⟨_, rfl, .list (toPys (ps'.map wordD)), .list (toPys (ps'.map wordD)), .lst (SqL.of eD) (dvs_dp hpz (hy g)), .lst (SqL.of eyp) (dvs_dp hpz (ryp g)), hsz, hsz, _, rfl, ?_⟩
        refine ifF (by rw [eqv_lst hpz]; rfl) ?_
        exact ⟨_, rfl, W1.keep s13, S1.keep s13, X1.ext s13⟩
    clear W1 X1 S1 P1 ewp hr9 r
    rintro σ H1 ⟨r, rfl, W1, S1, X1⟩
    -- raised = caught(passes_of(pick))
    refine ⟨X1, fun H2 e2 X2 => ?_⟩
    have W2 := W1.extN e2
    have S2 := S1.extN e2
    obtain ⟨wsa, ewa, rwa, _⟩ := id W2
    have hdw : DV g H2 (.ref wl) (.lst (ps.map wordD)) := .lst ewa fw.2.1 hlD (rwa g)
    refine ⟨_, rfl, _, rfl, (by show 1 ≤ sizeLine; decide), fun po0 hpo0 => ?_⟩
    generalize hHo0 : upd H2 po0 _ = Ho0
    obtain ⟨so0, eo0⟩ := freshF hpo0 hHo0
    have to0 : Same H2 Ho0 := so0
    refine ⟨(by show 5 ≤ sizeLine; decide), fun lo hpo1 => ?_⟩
    generalize hHo1 : upd Ho0 lo _ = Ho
    obtain ⟨so1, eo1⟩ := freshF hpo1 hHo1
    have to1 : Same H2 Ho := to0.trans so1
    have go1 := ((S2.keep to0).free hpo1).2.1
    have uo0 : Same Ho0 Ho := so1
    have to := to1
    have dvo : DVs g Ho [V.non, V.int 0, V.ref wl, V.ref po0, V.bl true] [Dt.non, Dt.int 0, Dt.lst (ps.map wordD), Dt.tup [Dt.str "fold"], Dt.bl true] := (.cons .non (.cons (.int _) (.cons (hdw.keep (Kv.of to1)) (.cons (.tup (uo0 _ _ eo0) (by show 1 ≤ 1000; decide) (.cons (.str (by decide +kernel)) .nil)) (.cons (.bl _) .nil)))))
    have eo := eo1
    have hlo := hpo1
    have fo := (S2.keep to0).free hlo
    have no := to0.free hlo
    refine ⟨d, g, c, lo, _, _, rfl, S2.keep to, by omega, eo, fo.2.1, by simp, (by show 5 ≤ 1000000; decide), fun ov H3 hov S3 kp3 => ?_⟩
    obtain ⟨od, hod, ho⟩ := dvo.pick hov
    have ho := ho.keep (Kv.kp (S2.keep to) kp3)
    have nos : isStr od = false := by
      clear ho
      simp only [List.mem_cons, List.not_mem_nil, or_false] at hod
      rcases hod with rfl | rfl | rfl | rfl | rfl <;> rfl
    have X3 := tabs_kp (X2.ext to) (S2.keep to) kp3
    have W3 := (W2.keep to).kp (S2.keep to) kp3 fw.1 fw.2.1
    refine ⟨g, ov, od, rfl, ho, .inl ⟨nos, fun dd H4 s4 hdd => ?_⟩⟩
    refine ⟨true, E1.exm, fun _ a ha => ?_, fun z => nomatch z⟩
    generalize hH5 : upd H4 a _ = H5
    obtain ⟨sa, ea⟩ := freshF ha hH5
    have s45 := s4.trans sa
    have hdd5 := sa _ _ hdd
    refine ⟨_, rfl, a, dd, _, _, _, true, rfl, (fun u h => h), ea, hdd5, kit_self, _, rfl, ifF rfl ?_⟩
    refine ⟨_, rfl, a, dd, _, _, rfl, ea, hdd5, fs_index _, rfl, _, rfl, ifF rfl ?_⟩
    have W5 := W3.keep s45
    have S5 := S3.keep s45
    have X5 := X3.ext s45
    clear ho hdd5 hdd hod hov dvo rwa ewa hdw
    -- at
    obtain ⟨wsb, ewb, rwb, _⟩ := id W5
    have hlb : wsb.length = ps.length := by rw [(rwb 0).len, List.length_map]
    refine ⟨_, rfl, _, rfl, wl, wsb, rfl, .inl (SqL.of ewb), _, _, rfl, rfl, d, g, c, _, _, rfl, S5, by omega, by omega, by omega, fun u H6 u0 u1 S6 kp6 => ?_⟩
    obtain ⟨j, rfl⟩ : ∃ j : Nat, u = (j : Nat) := ⟨u.toNat, by rw [Int.toNat_of_nonneg u0]⟩
    have hj : j ≤ ps.length := by omega
    have W6 := W5.kp S5 kp6 fw.1 fw.2.1
    have X6 := tabs_kp X5 S5 kp6
    -- odd
    refine ⟨_, rfl, (by show 1 ≤ sizeLine; decide), fun py0 hpy0 => ?_⟩
    generalize hHy0 : upd H6 py0 _ = Hy0
    obtain ⟨sy0, ey0⟩ := freshF hpy0 hHy0
    have ty0 : Same H6 Hy0 := sy0
    refine ⟨(by show 0 ≤ sizeLine; decide), fun py1 hpy1 => ?_⟩
    generalize hHy1 : upd Hy0 py1 _ = Hy1
    obtain ⟨sy1, ey1⟩ := freshF hpy1 hHy1
    have ty1 : Same H6 Hy1 := ty0.trans sy1
    refine ⟨(by show 3 ≤ sizeLine; decide), fun py2 hpy2 => ?_⟩
    generalize hHy2 : upd Hy1 py2 _ = Hy2
    obtain ⟨sy2, ey2⟩ := freshF hpy2 hHy2
    have ty2 : Same H6 Hy2 := ty1.trans sy2
    refine ⟨(by show 2 ≤ sizeLine; decide), fun py3 hpy3 => ?_⟩
    generalize hHy3 : upd Hy2 py3 _ = Hy3
    obtain ⟨sy3, ey3⟩ := freshF hpy3 hHy3
    have ty3 : Same H6 Hy3 := ty2.trans sy3
    refine ⟨(by show 1 ≤ sizeLine; decide), fun py4 hpy4 => ?_⟩
    generalize hHy4 : upd Hy3 py4 _ = Hy4
    obtain ⟨sy4, ey4⟩ := freshF hpy4 hHy4
    have ty4 : Same H6 Hy4 := ty3.trans sy4
    have gy4 := ((S6.keep ty3).free hpy4).2.1
    refine ⟨(by show 1 ≤ sizeLine; decide), fun py5 hpy5 => ?_⟩
    generalize hHy5 : upd Hy4 py5 _ = Hy5
    obtain ⟨sy5, ey5⟩ := freshF hpy5 hHy5
    have ty5 : Same H6 Hy5 := ty4.trans sy5
    refine ⟨(by show 2 ≤ sizeLine; decide), fun py6 hpy6 => ?_⟩
    generalize hHy6 : upd Hy5 py6 _ = Hy6
    obtain ⟨sy6, ey6⟩ := freshF hpy6 hHy6
    have ty6 : Same H6 Hy6 := ty5.trans sy6
    refine ⟨(by show 2 ≤ sizeLine; decide), fun py7 hpy7 => ?_⟩
    generalize hHy7 : upd Hy6 py7 _ = Hy7
    obtain ⟨sy7, ey7⟩ := freshF hpy7 hHy7
    have ty7 : Same H6 Hy7 := ty6.trans sy7
    refine ⟨(by show 0 ≤ sizeLine; decide), fun py8 hpy8 => ?_⟩
    generalize hHy8 : upd Hy7 py8 _ = Hy8
    obtain ⟨sy8, ey8⟩ := freshF hpy8 hHy8
    have ty8 : Same H6 Hy8 := ty7.trans sy8
    refine ⟨(by show 8 ≤ sizeLine; decide), fun ly hpy9 => ?_⟩
    generalize hHy9 : upd Hy8 ly _ = Hy
    obtain ⟨sy9, ey9⟩ := freshF hpy9 hHy9
    have ty9 : Same H6 Hy := ty8.trans sy9
    have gy9 := ((S6.keep ty8).free hpy9).2.1
    have uy8 : Same Hy8 Hy := sy9
    have uy7 : Same Hy7 Hy := sy8.trans uy8
    have uy6 : Same Hy6 Hy := sy7.trans uy7
    have uy5 : Same Hy5 Hy := sy6.trans uy6
    have uy4 : Same Hy4 Hy := sy5.trans uy5
    have uy3 : Same Hy3 Hy := sy4.trans uy4
    have uy2 : Same Hy2 Hy := sy3.trans uy3
    have uy1 : Same Hy1 Hy := sy2.trans uy2
    have uy0 : Same Hy0 Hy := sy1.trans uy1
    have ty := ty9
    have dvy : DVs g Hy [V.non, V.str "fold", V.ref py0, V.ref py3, V.ref py4, V.ref py5, V.ref py7, V.ref py8] [Dt.non, Dt.str "fold", Dt.tup [Dt.str "lay"], Dt.tup [Dt.str "fold", Dt.tup [Dt.int 0, Dt.int 0, Dt.tup []]], Dt.lst [Dt.str "dead"], Dt.tup [Dt.str "no"], Dt.tup [Dt.str "lay", Dt.tup [Dt.int 0, Dt.int 0]], Dt.tup []] := (.cons .non (.cons (.str (by decide +kernel)) (.cons (.tup (uy0 _ _ ey0) (by show 1 ≤ 1000; decide) (.cons (.str (by decide +kernel)) .nil)) (.cons (.tup (uy3 _ _ ey3) (by show 2 ≤ 1000; decide) (.cons (.str (by decide +kernel)) (.cons (.tup (uy2 _ _ ey2) (by show 3 ≤ 1000; decide) (.cons (.int _) (.cons (.int _) (.cons (.tup (uy1 _ _ ey1) (by show 0 ≤ 1000; decide) .nil) .nil)))) .nil))) (.cons (.lst (uy4 _ _ ey4) gy4 (by show 1 ≤ 1000; decide) (.cons (.str (by decide +kernel)) .nil)) (.cons (.tup (uy5 _ _ ey5) (by show 1 ≤ 1000; decide) (.cons (.str (by decide +kernel)) .nil)) (.cons (.tup (uy7 _ _ ey7) (by show 2 ≤ 1000; decide) (.cons (.str (by decide +kernel)) (.cons (.tup (uy6 _ _ ey6) (by show 2 ≤ 1000; decide) (.cons (.int _) (.cons (.int _) .nil))) .nil))) (.cons (.tup (uy8 _ _ ey8) (by show 0 ≤ 1000; decide) .nil) .nil))))))))
    have ey := ey9
    have hly := hpy9
    have fy := (S6.keep ty8).free hly
    have ny := ty8.free hly
    refine ⟨d, g, c, ly, _, _, rfl, S6.keep ty, by omega, ey, fy.2.1, by simp, (by show 8 ≤ 1000000; decide), fun ov H7 hov S7 kp7 => ?_⟩
    obtain ⟨od, hod, ho⟩ := dvy.pick hov
    have ho := ho.keep (Kv.kp (S6.keep ty) kp7)
    have nos : wordB od = false ∧ wordF od = true := by
      clear ho
      simp only [List.mem_cons, List.not_mem_nil, or_false] at hod
      rcases hod with rfl | rfl | rfl | rfl | rfl | rfl | rfl | rfl <;> exact ⟨by decide +kernel, by decide +kernel⟩
    have X7 := tabs_kp (X6.ext ty) (S6.keep ty) kp7
    have W7 := (W6.keep ty).kp (S6.keep ty) kp7 fw.1 fw.2.1
    refine ⟨(by show 2 ≤ sizeLine; decide), fun tw htw => ?_⟩
    generalize hH8 : upd H7 tw _ = H8
    obtain ⟨stw, etw⟩ := freshF htw hH8
    refine ⟨tw, _, rfl, SqT.of etw, rfl, _, _, rfl, _, _, rfl, rfl, ?_⟩
    have S8 := S7.keep stw
    have X8 := X7.ext stw
    have W8 := W7.keep stw
    have ho := ho.keep (Kv.of stw)
    -- raised = caught(passes_text(..))
    refine ⟨fun σ H' => ∃ r : V, σ = [some (.ref d), some (.ref pl), some (.ref wl), lv, some (.str (txt ps)), some (.str more), some (.str z), some (.ref pp), some (.ref wp), some r, some (.int (j : Nat)), some ov, none, none] ∧ StA H' d g c (n + 4010) ∧ Tabs (tbs T1 T2) H' ∧
      ((j < 40 ∧ ∃ (a dd : Addr), r = .ref a ∧ H' a = some (exh a (.ref C2) (some dd)) ∧ H' dd = some (.xd [("index", .int (j : Nat))])) ∨ 40 ≤ j), ?_, ?_⟩
    · refine ⟨X8, fun H2 e2 X2 => ?_⟩
      have W2 := W8.extN e2
      have S2 := S8.extN e2
      have ho := ho.keep (Kv.extN e2)
      obtain ⟨wsa, ewa, rwa, _⟩ := id W2
      have hla : wsa.length = ps.length := by rw [(rwa 0).len, List.length_map]
      refine ⟨_, rfl, _, rfl, _, rfl, wl, wsa, rfl, SqL.of ewa, fun q1 hq1 => ?_⟩
      generalize hH3 : upd H2 q1 _ = H3
      obtain ⟨sq1, eq1⟩ := freshF hq1 hH3
      refine ⟨_, rfl, (by show 1 ≤ sizeLine; decide), fun q2 hq2 => ?_⟩
      generalize hH4 : upd H3 q2 _ = H4
      obtain ⟨sq2, eq2⟩ := freshF hq2 hH4
      have l1 := cutV_length wsa none (some (j : Int))
      have l2 := cutV_length wsa (some (j : Int)) none
      refine ⟨q1, q2, _, _, rfl, rfl, sq2 _ _ eq1, eq2, by rw [sizeLine_eq]; show _ + 1 ≤ _; omega, fun q3 hq3 => ?_⟩
      generalize hH5 : upd H4 q3 _ = H5
      obtain ⟨sq3, eq3⟩ := freshF hq3 hH5
      have s25 := (sq1.trans sq2).trans sq3
      refine ⟨_, rfl, _, rfl, _, rfl, wl, wsa, rfl, SqL.of (s25 _ _ ewa), fun q4 hq4 => ?_⟩
      generalize hH6 : upd H5 q4 _ = H6
      obtain ⟨sq4, eq4⟩ := freshF hq4 hH6
      refine ⟨q3, q4, _, _, rfl, rfl, sq4 _ _ eq3, eq4, by rw [List.length_append, sizeLine_eq]; show _ + 1 + _ ≤ _; omega, fun q5 hq5 => ?_⟩
      generalize hH7 : upd H6 q5 _ = H7
      obtain ⟨sq5, eq5⟩ := freshF hq5 hH7
      refine ⟨_, rfl, q5, _, rfl, SqL.of eq5, fun q6 hq6 => ?_⟩
      generalize hH8 : upd H7 q6 _ = H8
      obtain ⟨sq6, eq6⟩ := freshF hq6 hH8
      have s28 := ((s25.trans sq4).trans sq5).trans sq6
      have s27 := (s25.trans sq4).trans sq5
      have g6 := ((S2.keep s27).free hq6).2.1
      have e6 : H8 q6 = some (.lst (((wsa.take j ++ [ov]) ++ wsa.drop j).take 40)) :=
        (show H8 q6 = some (.lst (cutV ((cutV wsa none (some (j : Int)) ++ [ov]) ++ cutV wsa (some (j : Int)) none) none (some ((40 : Nat) : Int)))) from eq6).trans (by rw [cutV_take, cutV_take, cutV_drop])
      have r6 : DVs g H8 (((wsa.take j ++ [ov]) ++ wsa.drop j).take 40) ((((ps.map wordD).take j ++ [od]) ++ (ps.map wordD).drop j).take 40) :=
        DVs.take 40 (DVs.app (DVs.app (DVs.take j ((rwa g).keep (Kv.of s28))) (.cons (ho.keep (Kv.of s28)) .nil)) (DVs.drop j ((rwa g).keep (Kv.of s28))))
      have l6 : ((((ps.map wordD).take j ++ [od]) ++ (ps.map wordD).drop j).take 40).length ≤ 40 := List.length_take_le _ _
      have w6 : ∀ l, seqOf (.lst ((((ps.map wordD).take j ++ [od]) ++ (ps.map wordD).drop j).take 40)) = some l → ∀ x ∈ l, wordF x = true := fun l hl x hx => by
        obtain rfl : _ = l := Option.some.inj hl
        have hx := List.mem_of_mem_take hx
        have hq : ∀ y ∈ ps.map wordD, wordF y = true := fun y hy => by
          obtain ⟨q, hq, rfl⟩ := List.mem_map.mp hy
          exact (wordB_of (okw q hq)).2
        rcases List.mem_append.mp hx with hx | hx
        · rcases List.mem_append.mp hx with hx | hx
          · exact hq x (List.mem_of_mem_take hx)
          · rw [List.mem_singleton.mp hx]
            exact nos.2
        · exact hq x (List.mem_of_mem_drop hx)
      by_cases h : j < 40
      · have hE : errN (.lst ((((ps.map wordD).take j ++ [od]) ++ (ps.map wordD).drop j).take 40)) = some (j : Int) := by
          unfold errN seqOf
          show (if 40 < _ then some (-1 : Int) else (firstBad _).map fun n : Nat => (n : Int)) = _
          rw [if_neg (by omega), firstBad_at okw (by omega) nos.1 h]
          rfl
        refine ⟨g, .ref q6, _, rfl, .lst e6 g6 (by omega) r6, w6, .inr ⟨(j : Int), hE, fun dd H9 s9 hdd => ?_⟩⟩
        refine ⟨true, E2.exm, fun _ a ha => ?_, fun z => nomatch z⟩
        generalize hHA : upd H9 a _ = HA
        obtain ⟨sa, ea⟩ := freshF ha hHA
        have s2A := s28.trans (s9.trans sa)
        exact ⟨_, rfl, (S2.keep s2A).mono (by omega), X2.ext s2A, .inl ⟨h, a, dd, rfl, ea, sa _ _ hdd⟩⟩
      · have hj40 : j = 40 := by omega
        have hp40 : (ps.map wordD).length = 40 := by rw [List.length_map]; omega
        have e40 : ((((ps.map wordD).take j ++ [od]) ++ (ps.map wordD).drop j).take 40) = ps.map wordD := by
          rw [hj40]
          exact take_all hp40
        rw [e40] at r6 w6
        refine ⟨g, .ref q6, .lst (ps.map wordD), rfl, .lst e6 g6 hlD r6, w6, .inl ⟨ps, rfl, okw, h40, fun H9 s9 => ?_⟩⟩
        exact ⟨_, rfl, (S2.keep (s28.trans s9)).mono (by omega), X2.ext (s28.trans s9), .inr (by omega)⟩
    clear ho S8 X8 W8 W7 X7 S7 W6 X6 S6
    rintro σ H1 ⟨r9, rfl, S1, X1, hr9⟩
    -- if at < 40 ..
    refine ⟨fun σ H' => ∃ r : V, σ = [some (.ref d), some (.ref pl), some (.ref wl), lv, some (.str (txt ps)), some (.str more), some (.str z), some (.ref pp), some (.ref wp), some r, some (.int (j : Nat)), some ov, none, none] ∧ StA H' d g c (n + 4010) ∧ Tabs (tbs T1 T2) H', ?_, ?_⟩
    · rcases hr9 with ⟨h, a, dd, rfl, ha, hdd⟩ | h
      · refine ⟨_, rfl, _, _, rfl, rfl, _, rfl, ifT (decide_eq_true (by omega)) ?_⟩
        refine ⟨_, rfl, a, dd, _, _, _, true, rfl, (fun u h => h), ha, hdd, kit_self, _, rfl, ifF rfl ?_⟩
        refine ⟨_, rfl, a, dd, _, _, rfl, ha, hdd, fs_index _, _, rfl, rfl, _, rfl, ifF (by simp) ?_⟩
        exact ⟨_, rfl, S1, X1⟩
      · refine ⟨_, rfl, _, _, rfl, rfl, _, rfl, ifF (decide_eq_false (by omega)) ?_⟩
        exact ⟨_, rfl, S1, X1⟩
    clear S1 X1 hr9 r9
    rintro σ HC ⟨r9, rfl, SC, XC⟩
    refine ⟨XC, fun HD eD XD => ?_⟩
    have SD := SC.extN eD
    have htx : DV g HD (.str (txt ps)) (.str (txt ps)) := .str (by omega)
    refine ⟨_, rfl, _, rfl, (by show 1 ≤ sizeLine; decide), fun pq0 hpq0 => ?_⟩
    generalize hHq0 : upd HD pq0 _ = Hq0
    obtain ⟨sq0, eq0⟩ := freshF hpq0 hHq0
    have tq0 : Same HD Hq0 := sq0
    refine ⟨(by show 1 ≤ sizeLine; decide), fun pq1 hpq1 => ?_⟩
    generalize hHq1 : upd Hq0 pq1 _ = Hq1
    obtain ⟨sq1, eq1⟩ := freshF hpq1 hHq1
    have tq1 : Same HD Hq1 := tq0.trans sq1
    have gq1 := ((SD.keep tq0).free hpq1).2.1
    refine ⟨_, _, _, rfl, rfl, eq1, by decide, by decide, (by show 1 * 41 ≤ sizeLine; decide), fun pq2 hpq2 => ?_⟩
    generalize hHq2 : upd Hq1 pq2 _ = Hq2
    obtain ⟨sq2, eq2⟩ := freshF hpq2 hHq2
    have tq2 : Same HD Hq2 := tq1.trans sq2
    have gq2 := ((SD.keep tq1).free hpq2).2.1
    refine fun pq3 hpq3 => ?_
    generalize hHq3 : upd Hq2 pq3 _ = Hq3
    obtain ⟨sq3, eq3⟩ := freshF hpq3 hHq3
    have tq3 : Same HD Hq3 := tq2.trans sq3
    refine ⟨(by show 5 ≤ sizeLine; decide), fun lq hpq4 => ?_⟩
    generalize hHq4 : upd Hq3 lq _ = Hq
    obtain ⟨sq4, eq4⟩ := freshF hpq4 hHq4
    have tq4 : Same HD Hq := tq3.trans sq4
    have gq4 := ((SD.keep tq3).free hpq4).2.1
    have uq3 : Same Hq3 Hq := sq4
    have uq2 : Same Hq2 Hq := sq3.trans uq3
    have uq1 : Same Hq1 Hq := sq2.trans uq2
    have uq0 : Same Hq0 Hq := sq1.trans uq1
    have tq := tq4
    have dvq : DVs g Hq [V.non, V.str (txt ps), V.int 5, V.ref pq2, V.ref pq3] [Dt.non, Dt.str (txt ps), Dt.int 5, Dt.lst (List.replicate 41 [Dt.tup [Dt.str "fold"]]).flatten, Dt.dic] := (.cons .non (.cons (htx.keep (Kv.of tq4)) (.cons (.int _) (.cons (.lst (uq2 _ _ eq2) gq2 (by decide) (DVs.rep (.cons (.tup (uq0 _ _ eq0) (by show 1 ≤ 1000; decide) (.cons (.str (by decide +kernel)) .nil)) .nil) 41)) (.cons (.dic (uq3 _ _ eq3)) .nil)))))
    have eq := eq4
    have hlq := hpq4
    have fq := (SD.keep tq3).free hlq
    have nq := tq3.free hlq
    refine ⟨d, g, c, lq, _, _, rfl, SD.keep tq, by omega, eq, fq.2.1, by simp, (by show 5 ≤ 1000000; decide), fun ov2 HE hov2 SE kpE => ?_⟩
    obtain ⟨od2, hod2, ho2⟩ := dvq.pick hov2
    have ho2 := ho2.keep (Kv.kp (SD.keep tq) kpE)
    have nos2 : errN od2 = some (-1 : Int) ∧ ∀ l, seqOf od2 = some l → ∀ x ∈ l, wordF x = true := by
      clear ho2
      simp only [List.mem_cons, List.not_mem_nil, or_false] at hod2
      rcases hod2 with rfl | rfl | rfl | rfl | rfl
      · exact ⟨rfl, fun l h => by cases h⟩
      · exact ⟨rfl, fun l h => by cases h⟩
      · exact ⟨rfl, fun l h => by cases h⟩
      · refine ⟨by decide +kernel, fun l h x hx => ?_⟩
        obtain rfl : (List.replicate 41 [Dt.tup [Dt.str "fold"]]).flatten = l := Option.some.inj h
        have := List.all_eq_true.mp (show ((List.replicate 41 [Dt.tup [Dt.str "fold"]]).flatten).all wordF = true by decide +kernel) x hx
        exact this
      · exact ⟨rfl, fun l h => by cases h⟩
    have XE := tabs_kp (XD.ext tq) (SD.keep tq) kpE
    refine ⟨g, ov2, od2, rfl, ho2, nos2.2, .inr ⟨-1, nos2.1, fun dd HF sF hdd => ?_⟩⟩
    refine ⟨true, E2.exm, fun _ a2 ha2 => ?_, fun z => nomatch z⟩
    generalize hHG : upd HF a2 _ = HG
    obtain ⟨sa2, ea2⟩ := freshF ha2 hHG
    have sEG := sF.trans sa2
    refine ⟨_, rfl, a2, dd, _, _, _, true, rfl, (fun u h => h), ea2, sa2 _ _ hdd, kit_self, true, rfl, iteT ?_⟩
    refine ⟨_, rfl, a2, dd, _, _, rfl, ea2, sa2 _ _ hdd, fs_index _, _, rfl, rfl, ?_⟩
    show Q (.bl (decide (V.int (-1) = V.int (-1)))) HG
    rw [decide_eq_true rfl]
    exact k HG ((SE.keep sEG).mono (by omega)) (XE.ext sEG)
end
end K80

set_option Elab.async false
set_option linter.all false
set_option pp.maxSteps 900
set_option maxRecDepth 100000
set_option maxHeartbeats 8000000
namespace K80
open PySem PySem.Spec PyProof.Rows L2
open LamX (Tabs TabS ExtN)
open TL (tl)
def spLaw (K : PySem.W.Frag) (T1 T2 : Addr) : Sp := fun vs H Q _ => ∃ (a : Addr) (ns : List Int), vs = [.ref a] ∧ SqL K H a (ns.map V.int) ∧ ns.length ≤ 63 ∧ H T1 = some (.tbl #[]) ∧ H T2 = some (.tbl #[]) ∧ ∀ H', Q (.bl true) H'
section
variable {P : Program} {w : World} {K : PySem.W.Frag} {mg : Str → Option Value} {base : Heap}
theorem scLaw : FnScope ["script", "state", "lap", "turn"] ["script"] (defScope sLaw) := ⟨rfl, rfl, rfl, by decide +kernel, rfl, by decide +kernel, by decide +kernel⟩
theorem ok_law {f T1 T2 : Addr} {fd : FuncData} (F : Fun K "law" "law" sLaw f fd) (B : Bn mg)
    (cBeg : Cl P w K mg base "_law_begun" ["script"] 1 (spBeg K)) (cLR : Cl P w K mg base "_law_labels_right" ["state"] 9 (spR T1 T2)) (cPR : Cl P w K mg base "_law_passes_right" ["state"] 11 (spR T1 T2)) :
    FnOk P w K mg base CX0 12 f fd ["script"] (spLaw K T1 T2) := by
  obtain ⟨fBeg, fdBeg, GBeg, mBeg, kBeg, bBeg⟩ := cBeg
  obtain ⟨fLR, fdLR, GLR, mLR, kLR, bLR⟩ := cLR
  obtain ⟨fPR, fdPR, GPR, mPR, kPR, bPR⟩ := cPR
  refine F.ok scLaw (fun vs H Q E h => ?_) (fun cdv A outer s H vs Q E hr h => ?_)
  · obtain ⟨a, ns, rfl, _⟩ := h
    rfl
  · obtain ⟨a, ns, rfl, hS, hlen, hT1, hT2, k⟩ := h
    have hr1 : Room 1 _ := hr.mono (by decide)
    have hr9 : Room 9 _ := hr.mono (by decide)
    refine ⟨_, (pss_cons (ps_set (i := 1) scLaw.nd rfl (Or.inl rfl) (pe_call GBeg hr1 (by rfl) mBeg kBeg bBeg .nil pass0 (pa_cons (pv 0) pa_nil)))
      (pss_cons (ps_for PassesOwn.never rfl (pi_range1 (by rfl) B.rng (pa_cons (pe_op op_add pe_int (pe_callB (call_min2 rfl) (by rfl) B.min PyProof.Rows.boot_min (pa_cons (pe_callB call_len_seq (by rfl) B.len PySem.boot_len (pa_cons (pv 0) pa_nil)) (pa_cons pe_int pa_nil)))) pa_nil)) (pg_name (i := 2) scLaw.nd rfl (Or.inl rfl))
          (pss_mid (ps_for PassesOwn.never rfl (pi_range1 (by rfl) B.rng (pa_cons pe_int pa_nil)) (pg_name (i := 3) scLaw.nd rfl (Or.inl rfl))
              (pss_one (ps_if (pt_not (pt_val (pe_call GLR hr9 (by rfl) mLR kLR bLR .nil pass0 (pa_cons (pv 1) pa_nil)))) (pss_one (ps_ret pe_bl)) pss_nil)))
          (pss_one (ps_for PassesOwn.never rfl (pi_range1 (by rfl) B.rng (pa_cons pe_int pa_nil)) (pg_name (i := 3) scLaw.nd rfl (Or.inl rfl))
              (pss_one (ps_if (pt_not (pt_val (pe_call GPR hr (by rfl) mPR kPR bPR .nil pass0 (pa_cons (pv 1) pa_nil)))) (pss_one (ps_ret pe_bl)) pss_nil))))))
      (pss_one (ps_ret pe_bl)))), ?_⟩
    refine ⟨_, rfl, a, ns, rfl, hS, hlen, fun d g c H1 S1 sm1 hd hg => ?_⟩
    have X1 : Tabs (tbs T1 T2) H1 := fun p hp => by
      rcases List.mem_cons.mp hp with rfl | hp
      · exact TabS.nil (sm1 _ _ hT1)
      · rw [List.mem_singleton.mp hp]
        exact TabS.nil (sm1 _ _ hT2)
    have hl63 : (ns.map V.int).length ≤ 63 := by rw [List.length_map]; exact hlen
    refine ⟨_, rfl, a, ns.map V.int, rfl, .inl (sm1.seq hS), _, _, rfl, _, _, rfl, rfl, _, rfl, ?_, ?_, for_range (lo := 0) (n := _)
      (fun i σ H' => ∃ (v2 v3 : Option V), σ = [some (.ref a), some (.ref d), v2, v3] ∧ StA H' d g c (100000 * i) ∧ Tabs (tbs T1 T2) H')
      ⟨none, none, rfl, S1, X1⟩ ?_ ?_⟩
    · split <;> omega
    · split <;> omega
    · rintro i σ H2 hi ⟨v2, v3, rfl, S2, X2⟩
      have hi3 : i < 3 := by
        revert hi
        split <;> omega
      refine ⟨fun σ H' => ∃ (v3 : Option V), σ = [some (.ref a), some (.ref d), some (.int (0 + (i : Nat))), v3] ∧ StA H' d g c (100000 * i + 50000) ∧ Tabs (tbs T1 T2) H', ?_, ?_⟩
      · refine ⟨5, rfl, by decide, by decide, for_range (lo := 0) (n := 5)
          (fun j σ H' => ∃ (v3 : Option V), σ = [some (.ref a), some (.ref d), some (.int (0 + (i : Nat))), v3] ∧ StA H' d g c (100000 * i + 10000 * j) ∧ Tabs (tbs T1 T2) H')
          ⟨v3, rfl, S2, X2⟩ ?_ ?_⟩
        · rintro j σ H3 hj ⟨v3, rfl, S3, X3⟩
          refine ⟨_, rfl, d, g, c, _, rfl, S3, by omega, X3, fun H4 S4 X4 => ⟨_, rfl, ifF rfl ?_⟩⟩
          exact ⟨_, rfl, S4.mono (by omega), X4⟩
        · rintro σ H3 ⟨v3, rfl, S3, X3⟩
          exact ⟨_, rfl, S3, X3⟩
      · rintro σ H3 ⟨v3, rfl, S3, X3⟩
        refine ⟨3, rfl, by decide, by decide, for_range (lo := 0) (n := 3)
          (fun j σ H' => ∃ (v3 : Option V), σ = [some (.ref a), some (.ref d), some (.int (0 + (i : Nat))), v3] ∧ StA H' d g c (100000 * i + 50000 + 10000 * j) ∧ Tabs (tbs T1 T2) H')
          ⟨v3, rfl, S3, X3⟩ ?_ ?_⟩
        · rintro j σ H4 hj ⟨v3, rfl, S4, X4⟩
          refine ⟨_, rfl, d, g, c, _, rfl, S4, by omega, X4, fun H5 S5 X5 => ⟨_, rfl, ifF rfl ?_⟩⟩
          exact ⟨_, rfl, S5.mono (by omega), X5⟩
        · rintro σ H4 ⟨v3, rfl, S4, X4⟩
          exact ⟨_, _, rfl, S4.mono (by omega), X4⟩
    · rintro σ H' ⟨v2, v3, rfl, S0, T0⟩
      exact k H'
end
end K80

set_option Elab.async false
set_option linter.all false
set_option pp.maxSteps 900
set_option maxRecDepth 100000
set_option maxHeartbeats 8000000
namespace K80
open PySem PySem.Spec PyProof.Rows L2
open LamX (GivesTo CodeO Tabs TabS TabB tLam pe_lamcall lamCx lamEnv lamS_by ExtN)
open TL (tl)
theorem exm_of {K : PySem.W.Frag} {S B : Addr} (h1 : PySem.W.subIn K (.ref B) (.type "BaseException") = some true) (h2 : PySem.W.isClsIn K B = true) (h3 : PySem.W.typeIn K (.ref B) = some (.type "type")) (h4 : PySem.W.subIn K (.ref S) (.ref B) = some true) :
    PySem.W.exmOne K (.ref S) (.ref B) = some true := by
  have e1 : (PySem.W.subIn K (.ref B) (.type "BaseException") == some true) = true := by rw [h1] <;> rfl
  have e2 : ((PySem.W.clsIn K B).isSome && PySem.W.typeIn K (.ref B) == some (.type "type")) = true := by
    have h2' : (PySem.W.clsIn K B).isSome = true := h2
    rw [h2', h3] <;> rfl
  show (if (PySem.W.subIn K (.ref B) (.type "BaseException") == some true) = true then (if ((PySem.W.clsIn K B).isSome && PySem.W.typeIn K (.ref B) == some (.type "type")) = true then PySem.W.subIn K (.ref S) (.ref B) else none) else none) = some true
  rw [if_pos e1, if_pos e2]
  exact h4
def valStr : Value → Option Str
  | .str s _ => some s
  | _ => none
theorem vals_of : ∀ {us : List Value} {ss : List Str}, us.map valStr = ss.map some → Vals (ss.map V.str) us
  | [], [], _ => .nil
  | [], _ :: _, h => by cases h
  | _ :: _, [], h => by cases h
  | u :: us, s :: ss, h => by
    injection h with h1 h2
    refine .cons ?_ (vals_of h2)
    cases u with
    | str x t =>
      obtain rfl := Option.some.inj h1
      exact ⟨_, rfl⟩
    | _ => cases h1
theorem all_mk {l : PySem.W.OpenLaw} {w : World} {K : PySem.W.Frag} {h : Heap} {mg : Str → Option Value} {fa CE E1 E2 E3 E4 cR cL T1 T2 : Addr} (X : K.In h) (G : h.Ns mainGlobals mg) (hfa : mg "law" = some (.ref fa))
    {f1 : Addr} {od1 an1 : Option Addr} {sl1 : Array (Option Value)} {oc1 kV1 dc1 pm1 cd1 ct1 : Value}
    {f2 : Addr} {od2 an2 : Option Addr} {sl2 : Array (Option Value)} {oc2 kV2 dc2 pm2 cd2 ct2 : Value}
    {f3 : Addr} {od3 an3 : Option Addr} {sl3 : Array (Option Value)} {oc3 kV3 dc3 pm3 cd3 ct3 : Value}
    {f4 : Addr} {od4 an4 : Option Addr} {sl4 : Array (Option Value)} {oc4 kV4 dc4 pm4 cd4 ct4 : Value}
    {f5 : Addr} {od5 an5 : Option Addr} {sl5 : Array (Option Value)} {oc5 kV5 dc5 pm5 cd5 ct5 : Value}
    {f6 : Addr} {od6 an6 : Option Addr} {sl6 : Array (Option Value)} {oc6 kV6 dc6 pm6 cd6 ct6 : Value}
    {f7 : Addr} {od7 an7 : Option Addr} {sl7 : Array (Option Value)} {oc7 kV7 dc7 pm7 cd7 ct7 : Value}
    {f8 : Addr} {od8 an8 : Option Addr} {sl8 : Array (Option Value)} {oc8 kV8 dc8 pm8 cd8 ct8 : Value}
    {f9 : Addr} {od9 an9 : Option Addr} {sl9 : Array (Option Value)} {oc9 kV9 dc9 pm9 cd9 ct9 : Value}
    {f10 : Addr} {od10 an10 : Option Addr} {sl10 : Array (Option Value)} {oc10 kV10 dc10 pm10 cd10 ct10 : Value}
    {f11 : Addr} {od11 an11 : Option Addr} {sl11 : Array (Option Value)} {oc11 kV11 dc11 pm11 cd11 ct11 : Value}
    {f12 : Addr} {od12 an12 : Option Addr} {sl12 : Array (Option Value)} {oc12 kV12 dc12 pm12 cd12 ct12 : Value}
    {f13 : Addr} {od13 an13 : Option Addr} {sl13 : Array (Option Value)} {oc13 kV13 dc13 pm13 cd13 ct13 : Value}
    {f14 : Addr} {od14 an14 : Option Addr} {sl14 : Array (Option Value)} {oc14 kV14 dc14 pm14 cd14 ct14 : Value}
    {f15 : Addr} {od15 an15 : Option Addr} {sl15 : Array (Option Value)} {oc15 kV15 dc15 pm15 cd15 ct15 : Value}
    {f16 : Addr} {od16 an16 : Option Addr} {sl16 : Array (Option Value)} {oc16 kV16 dc16 pm16 cd16 ct16 : Value}
    {f17 : Addr} {od17 an17 : Option Addr} {sl17 : Array (Option Value)} {oc17 kV17 dc17 pm17 cd17 ct17 : Value}
    {f18 : Addr} {od18 an18 : Option Addr} {sl18 : Array (Option Value)} {oc18 kV18 dc18 pm18 cd18 ct18 : Value}
    {f19 : Addr} {od19 an19 : Option Addr} {sl19 : Array (Option Value)} {oc19 kV19 dc19 pm19 cd19 ct19 : Value}
    {f20 : Addr} {od20 an20 : Option Addr} {sl20 : Array (Option Value)} {oc20 kV20 dc20 pm20 cd20 ct20 : Value}
    {f21 : Addr} {od21 an21 : Option Addr} {sl21 : Array (Option Value)} {oc21 kV21 dc21 pm21 cd21 ct21 : Value}
    {f22 : Addr} {od22 an22 : Option Addr} {sl22 : Array (Option Value)} {oc22 kV22 dc22 pm22 cd22 ct22 : Value}
    {f23 : Addr} {od23 an23 : Option Addr} {sl23 : Array (Option Value)} {oc23 kV23 dc23 pm23 cd23 ct23 : Value}
    {f24 : Addr} {od24 an24 : Option Addr} {sl24 : Array (Option Value)} {oc24 kV24 dc24 pm24 cd24 ct24 : Value}
    {f25 : Addr} {od25 an25 : Option Addr} {sl25 : Array (Option Value)} {oc25 kV25 dc25 pm25 cd25 ct25 : Value}
    {f26 : Addr} {od26 an26 : Option Addr} {sl26 : Array (Option Value)} {oc26 kV26 dc26 pm26 cd26 ct26 : Value}
    {f27 : Addr} {od27 an27 : Option Addr} {sl27 : Array (Option Value)} {oc27 kV27 dc27 pm27 cd27 ct27 : Value}
    {f28 : Addr} {od28 an28 : Option Addr} {sl28 : Array (Option Value)} {oc28 kV28 dc28 pm28 cd28 ct28 : Value}
    {f29 : Addr} {od29 an29 : Option Addr} {sl29 : Array (Option Value)} {oc29 kV29 dc29 pm29 cd29 ct29 : Value}
    {f30 : Addr} {od30 an30 : Option Addr} {sl30 : Array (Option Value)} {oc30 kV30 dc30 pm30 cd30 ct30 : Value}
    {f31 : Addr} {od31 an31 : Option Addr} {sl31 : Array (Option Value)} {oc31 kV31 dc31 pm31 cd31 ct31 : Value}
    {f32 : Addr} {od32 an32 : Option Addr} {sl32 : Array (Option Value)} {oc32 kV32 dc32 pm32 cd32 ct32 : Value}
    {f33 : Addr} {od33 an33 : Option Addr} {sl33 : Array (Option Value)} {oc33 kV33 dc33 pm33 ct33 : Value}
    {f34 : Addr} {od34 an34 : Option Addr} {sl34 : Array (Option Value)} {oc34 kV34 dc34 pm34 ct34 : Value}
    {f35 : Addr} {od35 an35 : Option Addr} {sl35 : Array (Option Value)} {oc35 kV35 dc35 pm35 cd35 ct35 : Value}
    {f36 : Addr} {od36 an36 : Option Addr} {sl36 : Array (Option Value)} {oc36 kV36 dc36 pm36 cd36 ct36 : Value}
    {f37 : Addr} {od37 an37 : Option Addr} {sl37 : Array (Option Value)} {oc37 kV37 dc37 pm37 cd37 ct37 : Value}
    {xS : Str} {tS : PySem.Tok}
    {xD : Str} {tD : PySem.Tok}
    {xG : Int} {tG : PySem.Tok}
    {xF : Int} {tF : PySem.Tok}
    {xN : Int} {tN : PySem.Tok}
    {xM : Int} {tM : PySem.Tok}
    {xP : Int} {tP : PySem.Tok}
    {qMa : Addr} {iMa : Array Value} {nMa : Nat} {sMa : Array (Option Value)}
    {qPl : Addr} {iPl : Array Value} {nPl : Nat} {sPl : Array (Option Value)}
    {qLa : Addr} {iLa : Array Value} {nLa : Nat} {sLa : Array (Option Value)}
    {nmE1 qE1 : Str} {NE1 : Addr} {bsE1 bmE1 : List Value} {snE1 : List Str} {subE1 : List Value} {abE1 : Bool} {colE1 : Option Bool} {ddE1 : Option Addr} {m0E1 m1E1 m2E1 m3E1 m5E1 : Option Value}
    {nmE2 qE2 : Str} {NE2 : Addr} {bsE2 bmE2 : List Value} {snE2 : List Str} {subE2 : List Value} {abE2 : Bool} {colE2 : Option Bool} {ddE2 : Option Addr} {m0E2 m1E2 m2E2 m3E2 m5E2 : Option Value}
    (a1 : PySem.W.nsIn K mainGlobals "is_whole" = some (some (.ref f1)))
    (l1 : K.lookup f1 = some ⟨oc1, od1, .func (PySem.W.fnOf "is_whole" "is_whole" (defArgs sWhl) (defBody sWhl) (defScope sWhl) .none kV1 dc1 pm1 an1 cd1 ct1), sl1⟩)
    (c1 : PySem.W.codeIn K cd1 "is_whole" = true)
    (k1 : PySem.W.keepIn K (.ref f1) = true)
    (a2 : PySem.W.nsIn K mainGlobals "is_within" = some (some (.ref f2)))
    (l2 : K.lookup f2 = some ⟨oc2, od2, .func (PySem.W.fnOf "is_within" "is_within" (defArgs sWin) (defBody sWin) (defScope sWin) .none kV2 dc2 pm2 an2 cd2 ct2), sl2⟩)
    (c2 : PySem.W.codeIn K cd2 "is_within" = true)
    (k2 : PySem.W.keepIn K (.ref f2) = true)
    (a3 : PySem.W.nsIn K mainGlobals "is_list" = some (some (.ref f3)))
    (l3 : K.lookup f3 = some ⟨oc3, od3, .func (PySem.W.fnOf "is_list" "is_list" (defArgs sLs) (defBody sLs) (defScope sLs) .none kV3 dc3 pm3 an3 cd3 ct3), sl3⟩)
    (c3 : PySem.W.codeIn K cd3 "is_list" = true)
    (k3 : PySem.W.keepIn K (.ref f3) = true)
    (a4 : PySem.W.nsIn K mainGlobals "is_tuple_of" = some (some (.ref f4)))
    (l4 : K.lookup f4 = some ⟨oc4, od4, .func (PySem.W.fnOf "is_tuple_of" "is_tuple_of" (defArgs sTof) (defBody sTof) (defScope sTof) .none kV4 dc4 pm4 an4 cd4 ct4), sl4⟩)
    (c4 : PySem.W.codeIn K cd4 "is_tuple_of" = true)
    (k4 : PySem.W.keepIn K (.ref f4) = true)
    (a5 : PySem.W.nsIn K mainGlobals "is_tuple_within" = some (some (.ref f5)))
    (l5 : K.lookup f5 = some ⟨oc5, od5, .func (PySem.W.fnOf "is_tuple_within" "is_tuple_within" (defArgs sTin) (defBody sTin) (defScope sTin) .none kV5 dc5 pm5 an5 cd5 ct5), sl5⟩)
    (c5 : PySem.W.codeIn K cd5 "is_tuple_within" = true)
    (k5 : PySem.W.keepIn K (.ref f5) = true)
    (a6 : PySem.W.nsIn K mainGlobals "is_code_label" = some (some (.ref f6)))
    (l6 : K.lookup f6 = some ⟨oc6, od6, .func (PySem.W.fnOf "is_code_label" "is_code_label" (defArgs sCode) (defBody sCode) (defScope sCode) .none kV6 dc6 pm6 an6 cd6 ct6), sl6⟩)
    (c6 : PySem.W.codeIn K cd6 "is_code_label" = true)
    (k6 : PySem.W.keepIn K (.ref f6) = true)
    (a7 : PySem.W.nsIn K mainGlobals "is_station" = some (some (.ref f7)))
    (l7 : K.lookup f7 = some ⟨oc7, od7, .func (PySem.W.fnOf "is_station" "is_station" (defArgs sSta) (defBody sSta) (defScope sSta) .none kV7 dc7 pm7 an7 cd7 ct7), sl7⟩)
    (c7 : PySem.W.codeIn K cd7 "is_station" = true)
    (k7 : PySem.W.keepIn K (.ref f7) = true)
    (a8 : PySem.W.nsIn K mainGlobals "is_mark" = some (some (.ref f8)))
    (l8 : K.lookup f8 = some ⟨oc8, od8, .func (PySem.W.fnOf "is_mark" "is_mark" (defArgs sMk) (defBody sMk) (defScope sMk) .none kV8 dc8 pm8 an8 cd8 ct8), sl8⟩)
    (c8 : PySem.W.codeIn K cd8 "is_mark" = true)
    (k8 : PySem.W.keepIn K (.ref f8) = true)
    (a9 : PySem.W.nsIn K mainGlobals "is_word" = some (some (.ref f9)))
    (l9 : K.lookup f9 = some ⟨oc9, od9, .func (PySem.W.fnOf "is_word" "is_word" (defArgs sWd) (defBody sWd) (defScope sWd) .none kV9 dc9 pm9 an9 cd9 ct9), sl9⟩)
    (c9 : PySem.W.codeIn K cd9 "is_word" = true)
    (k9 : PySem.W.keepIn K (.ref f9) = true)
    (a10 : PySem.W.nsIn K mainGlobals "need_words" = some (some (.ref f10)))
    (l10 : K.lookup f10 = some ⟨oc10, od10, .func (PySem.W.fnOf "need_words" "need_words" (defArgs sNW) (defBody sNW) (defScope sNW) .none kV10 dc10 pm10 an10 cd10 ct10), sl10⟩)
    (c10 : PySem.W.codeIn K cd10 "need_words" = true)
    (k10 : PySem.W.keepIn K (.ref f10) = true)
    (a11 : PySem.W.nsIn K mainGlobals "whole_of" = some (some (.ref f11)))
    (l11 : K.lookup f11 = some ⟨oc11, od11, .func (PySem.W.fnOf "whole_of" "whole_of" (defArgs sWh) (defBody sWh) (defScope sWh) .none kV11 dc11 pm11 an11 cd11 ct11), sl11⟩)
    (c11 : PySem.W.codeIn K cd11 "whole_of" = true)
    (k11 : PySem.W.keepIn K (.ref f11) = true)
    (a12 : PySem.W.nsIn K mainGlobals "label_text" = some (some (.ref f12)))
    (l12 : K.lookup f12 = some ⟨oc12, od12, .func (PySem.W.fnOf "label_text" "label_text" (defArgs sLX) (defBody sLX) (defScope sLX) .none kV12 dc12 pm12 an12 cd12 ct12), sl12⟩)
    (c12 : PySem.W.codeIn K cd12 "label_text" = true)
    (k12 : PySem.W.keepIn K (.ref f12) = true)
    (a13 : PySem.W.nsIn K mainGlobals "text_of_label" = some (some (.ref f13)))
    (l13 : K.lookup f13 = some ⟨oc13, od13, .func (PySem.W.fnOf "text_of_label" "text_of_label" (defArgs sTL) (defBody sTL) (defScope sTL) .none kV13 dc13 pm13 an13 cd13 ct13), sl13⟩)
    (c13 : PySem.W.codeIn K cd13 "text_of_label" = true)
    (k13 : PySem.W.keepIn K (.ref f13) = true)
    (a14 : PySem.W.nsIn K mainGlobals "label_of" = some (some (.ref f14)))
    (l14 : K.lookup f14 = some ⟨oc14, od14, .func (PySem.W.fnOf "label_of" "label_of" (defArgs sLO) (defBody sLO) (defScope sLO) .none kV14 dc14 pm14 an14 cd14 ct14), sl14⟩)
    (c14 : PySem.W.codeIn K cd14 "label_of" = true)
    (k14 : PySem.W.keepIn K (.ref f14) = true)
    (a15 : PySem.W.nsIn K mainGlobals "label_told" = some (some (.ref f15)))
    (l15 : K.lookup f15 = some ⟨oc15, od15, .func (PySem.W.fnOf "label_told" "label_told" (defArgs sTold) (defBody sTold) (defScope sTold) .none kV15 dc15 pm15 an15 cd15 ct15), sl15⟩)
    (c15 : PySem.W.codeIn K cd15 "label_told" = true)
    (k15 : PySem.W.keepIn K (.ref f15) = true)
    (a16 : PySem.W.nsIn K mainGlobals "_pair_told" = some (some (.ref f16)))
    (l16 : K.lookup f16 = some ⟨oc16, od16, .func (PySem.W.fnOf "_pair_told" "_pair_told" (defArgs sPr) (defBody sPr) (defScope sPr) .none kV16 dc16 pm16 an16 cd16 ct16), sl16⟩)
    (c16 : PySem.W.codeIn K cd16 "_pair_told" = true)
    (k16 : PySem.W.keepIn K (.ref f16) = true)
    (a17 : PySem.W.nsIn K mainGlobals "passes_text" = some (some (.ref f17)))
    (l17 : K.lookup f17 = some ⟨oc17, od17, .func (PySem.W.fnOf "passes_text" "passes_text" (defArgs sPT) (defBody sPT) (defScope sPT) .none kV17 dc17 pm17 an17 cd17 ct17), sl17⟩)
    (c17 : PySem.W.codeIn K cd17 "passes_text" = true)
    (k17 : PySem.W.keepIn K (.ref f17) = true)
    (a18 : PySem.W.nsIn K mainGlobals "text_of_word" = some (some (.ref f18)))
    (l18 : K.lookup f18 = some ⟨oc18, od18, .func (PySem.W.fnOf "text_of_word" "text_of_word" (defArgs sTW) (defBody sTW) (defScope sTW) .none kV18 dc18 pm18 an18 cd18 ct18), sl18⟩)
    (c18 : PySem.W.codeIn K cd18 "text_of_word" = true)
    (k18 : PySem.W.keepIn K (.ref f18) = true)
    (a19 : PySem.W.nsIn K mainGlobals "passes_of" = some (some (.ref f19)))
    (l19 : K.lookup f19 = some ⟨oc19, od19, .func (PySem.W.fnOf "passes_of" "passes_of" (defArgs sPO) (defBody sPO) (defScope sPO) .none kV19 dc19 pm19 an19 cd19 ct19), sl19⟩)
    (c19 : PySem.W.codeIn K cd19 "passes_of" = true)
    (k19 : PySem.W.keepIn K (.ref f19) = true)
    (a20 : PySem.W.nsIn K mainGlobals "word_told" = some (some (.ref f20)))
    (l20 : K.lookup f20 = some ⟨oc20, od20, .func (PySem.W.fnOf "word_told" "word_told" (defArgs sWT) (defBody sWT) (defScope sWT) .none kV20 dc20 pm20 an20 cd20 ct20), sl20⟩)
    (c20 : PySem.W.codeIn K cd20 "word_told" = true)
    (k20 : PySem.W.keepIn K (.ref f20) = true)
    (a21 : PySem.W.nsIn K mainGlobals "_law_begun" = some (some (.ref f21)))
    (l21 : K.lookup f21 = some ⟨oc21, od21, .func (PySem.W.fnOf "_law_begun" "_law_begun" (defArgs sBeg) (defBody sBeg) (defScope sBeg) .none kV21 dc21 pm21 an21 cd21 ct21), sl21⟩)
    (c21 : PySem.W.codeIn K cd21 "_law_begun" = true)
    (k21 : PySem.W.keepIn K (.ref f21) = true)
    (a22 : PySem.W.nsIn K mainGlobals "_law_mixed" = some (some (.ref f22)))
    (l22 : K.lookup f22 = some ⟨oc22, od22, .func (PySem.W.fnOf "_law_mixed" "_law_mixed" (defArgs sMix) (defBody sMix) (defScope sMix) .none kV22 dc22 pm22 an22 cd22 ct22), sl22⟩)
    (c22 : PySem.W.codeIn K cd22 "_law_mixed" = true)
    (k22 : PySem.W.keepIn K (.ref f22) = true)
    (a23 : PySem.W.nsIn K mainGlobals "_law_draw" = some (some (.ref f23)))
    (l23 : K.lookup f23 = some ⟨oc23, od23, .func (PySem.W.fnOf "_law_draw" "_law_draw" (defArgs sDrw) (defBody sDrw) (defScope sDrw) .none kV23 dc23 pm23 an23 cd23 ct23), sl23⟩)
    (c23 : PySem.W.codeIn K cd23 "_law_draw" = true)
    (k23 : PySem.W.keepIn K (.ref f23) = true)
    (a24 : PySem.W.nsIn K mainGlobals "_law_pick" = some (some (.ref f24)))
    (l24 : K.lookup f24 = some ⟨oc24, od24, .func (PySem.W.fnOf "_law_pick" "_law_pick" (defArgs sPck) (defBody sPck) (defScope sPck) .none kV24 dc24 pm24 an24 cd24 ct24), sl24⟩)
    (c24 : PySem.W.codeIn K cd24 "_law_pick" = true)
    (k24 : PySem.W.keepIn K (.ref f24) = true)
    (a25 : PySem.W.nsIn K mainGlobals "_law_caught" = some (some (.ref f25)))
    (l25 : K.lookup f25 = some ⟨oc25, od25, .func (PySem.W.fnOf "_law_caught" "_law_caught" (defArgs sCgt) (defBody sCgt) (defScope sCgt) .none kV25 dc25 pm25 an25 cd25 ct25), sl25⟩)
    (c25 : PySem.W.codeIn K cd25 "_law_caught" = true)
    (k25 : PySem.W.keepIn K (.ref f25) = true)
    (a26 : PySem.W.nsIn K mainGlobals "_law_pair" = some (some (.ref f26)))
    (l26 : K.lookup f26 = some ⟨oc26, od26, .func (PySem.W.fnOf "_law_pair" "_law_pair" (defArgs sLP) (defBody sLP) (defScope sLP) .none kV26 dc26 pm26 an26 cd26 ct26), sl26⟩)
    (c26 : PySem.W.codeIn K cd26 "_law_pair" = true)
    (k26 : PySem.W.keepIn K (.ref f26) = true)
    (a27 : PySem.W.nsIn K mainGlobals "_law_label" = some (some (.ref f27)))
    (l27 : K.lookup f27 = some ⟨oc27, od27, .func (PySem.W.fnOf "_law_label" "_law_label" (defArgs sLL) (defBody sLL) (defScope sLL) .none kV27 dc27 pm27 an27 cd27 ct27), sl27⟩)
    (c27 : PySem.W.codeIn K cd27 "_law_label" = true)
    (k27 : PySem.W.keepIn K (.ref f27) = true)
    (a28 : PySem.W.nsIn K mainGlobals "_law_told_label" = some (some (.ref f28)))
    (l28 : K.lookup f28 = some ⟨oc28, od28, .func (PySem.W.fnOf "_law_told_label" "_law_told_label" (defArgs sLTL) (defBody sLTL) (defScope sLTL) .none kV28 dc28 pm28 an28 cd28 ct28), sl28⟩)
    (c28 : PySem.W.codeIn K cd28 "_law_told_label" = true)
    (k28 : PySem.W.keepIn K (.ref f28) = true)
    (a29 : PySem.W.nsIn K mainGlobals "_law_whole" = some (some (.ref f29)))
    (l29 : K.lookup f29 = some ⟨oc29, od29, .func (PySem.W.fnOf "_law_whole" "_law_whole" (defArgs sLW) (defBody sLW) (defScope sLW) .none kV29 dc29 pm29 an29 cd29 ct29), sl29⟩)
    (c29 : PySem.W.codeIn K cd29 "_law_whole" = true)
    (k29 : PySem.W.keepIn K (.ref f29) = true)
    (a30 : PySem.W.nsIn K mainGlobals "_law_read_label" = some (some (.ref f30)))
    (l30 : K.lookup f30 = some ⟨oc30, od30, .func (PySem.W.fnOf "_law_read_label" "_law_read_label" (defArgs sRL) (defBody sRL) (defScope sRL) .none kV30 dc30 pm30 an30 cd30 ct30), sl30⟩)
    (c30 : PySem.W.codeIn K cd30 "_law_read_label" = true)
    (k30 : PySem.W.keepIn K (.ref f30) = true)
    (a31 : PySem.W.nsIn K mainGlobals "_law_read_pass" = some (some (.ref f31)))
    (l31 : K.lookup f31 = some ⟨oc31, od31, .func (PySem.W.fnOf "_law_read_pass" "_law_read_pass" (defArgs sRP) (defBody sRP) (defScope sRP) .none kV31 dc31 pm31 an31 cd31 ct31), sl31⟩)
    (c31 : PySem.W.codeIn K cd31 "_law_read_pass" = true)
    (k31 : PySem.W.keepIn K (.ref f31) = true)
    (a32 : PySem.W.nsIn K mainGlobals "_law_bent" = some (some (.ref f32)))
    (l32 : K.lookup f32 = some ⟨oc32, od32, .func (PySem.W.fnOf "_law_bent" "_law_bent" (defArgs sLB) (defBody sLB) (defScope sLB) .none kV32 dc32 pm32 an32 cd32 ct32), sl32⟩)
    (c32 : PySem.W.codeIn K cd32 "_law_bent" = true)
    (k32 : PySem.W.keepIn K (.ref f32) = true)
    (a33 : PySem.W.nsIn K mainGlobals "_law_labels_right" = some (some (.ref f33)))
    (l33 : K.lookup f33 = some ⟨oc33, od33, .func (PySem.W.fnOf "_law_labels_right" "_law_labels_right" (defArgs sLR) (defBody sLR) (defScope sLR) .none kV33 dc33 pm33 an33 (.ref cR) ct33), sl33⟩)
    (c33 : PySem.W.codeIn K (.ref cR) "_law_labels_right" = true)
    (k33 : PySem.W.keepIn K (.ref f33) = true)
    (a34 : PySem.W.nsIn K mainGlobals "_law_passes_right" = some (some (.ref f34)))
    (l34 : K.lookup f34 = some ⟨oc34, od34, .func (PySem.W.fnOf "_law_passes_right" "_law_passes_right" (defArgs sPR) (defBody sPR) (defScope sPR) .none kV34 dc34 pm34 an34 (.ref cL) ct34), sl34⟩)
    (c34 : PySem.W.codeIn K (.ref cL) "_law_passes_right" = true)
    (k34 : PySem.W.keepIn K (.ref f34) = true)
    (a35 : PySem.W.nsIn K mainGlobals "law" = some (some (.ref f35)))
    (l35 : K.lookup f35 = some ⟨oc35, od35, .func (PySem.W.fnOf "law" "law" (defArgs sLaw) (defBody sLaw) (defScope sLaw) .none kV35 dc35 pm35 an35 cd35 ct35), sl35⟩)
    (c35 : PySem.W.codeIn K cd35 "law" = true)
    (k35 : PySem.W.keepIn K (.ref f35) = true)
    (a36 : PySem.W.findIn K (.ref E1) "__init__" = some (some (.ref f36)))
    (l36 : K.lookup f36 = some ⟨oc36, od36, .func (PySem.W.fnOf "__init__" "BadPassesText.__init__" (defArgs sIT) (defBody sIT) (defScope sIT) .none kV36 dc36 pm36 an36 cd36 ct36), sl36⟩)
    (c36 : PySem.W.codeIn K cd36 "BadPassesText.__init__" = true)
    (k36 : PySem.W.keepIn K (.ref f36) = true)
    (a37 : PySem.W.findIn K (.ref E2) "__init__" = some (some (.ref f37)))
    (l37 : K.lookup f37 = some ⟨oc37, od37, .func (PySem.W.fnOf "__init__" "BadPasses.__init__" (defArgs sIP) (defBody sIP) (defScope sIP) .none kV37 dc37 pm37 an37 cd37 ct37), sl37⟩)
    (c37 : PySem.W.codeIn K cd37 "BadPasses.__init__" = true)
    (k37 : PySem.W.keepIn K (.ref f37) = true)
    (z_isinstance : PySem.W.nsIn K mainGlobals "isinstance" = some none)
    (z_len : PySem.W.nsIn K mainGlobals "len" = some none)
    (z_str : PySem.W.nsIn K mainGlobals "str" = some none)
    (z_int : PySem.W.nsIn K mainGlobals "int" = some none)
    (z_bool : PySem.W.nsIn K mainGlobals "bool" = some none)
    (z_tuple : PySem.W.nsIn K mainGlobals "tuple" = some none)
    (z_list : PySem.W.nsIn K mainGlobals "list" = some none)
    (z_all : PySem.W.nsIn K mainGlobals "all" = some none)
    (z_range : PySem.W.nsIn K mainGlobals "range" = some none)
    (z_min : PySem.W.nsIn K mainGlobals "min" = some none)
    (z_zip : PySem.W.nsIn K mainGlobals "zip" = some none)
    (z_enumerate : PySem.W.nsIn K mainGlobals "enumerate" = some none)
    (z_abs : PySem.W.nsIn K mainGlobals "abs" = some none)
    (vS : PySem.W.nsIn K mainGlobals "MARK_SIGNS" = some (some (.str xS tS)))
    (eS : xS = sg3)
    (vD : PySem.W.nsIn K mainGlobals "DIGITS" = some (some (.str xD tD)))
    (eD : xD = D10)
    (vG : PySem.W.nsIn K mainGlobals "MOST_DIGITS" = some (some (.int xG tG)))
    (eG : xG = 30)
    (vF : PySem.W.nsIn K mainGlobals "MOST_FUNCTION" = some (some (.int xF tF)))
    (eF : xF = 5)
    (vN : PySem.W.nsIn K mainGlobals "MOST_NUMBER" = some (some (.int xN tN)))
    (eN : xN = 999)
    (vM : PySem.W.nsIn K mainGlobals "MOST_MARKS" = some (some (.int xM tM)))
    (eM : xM = 8)
    (vP : PySem.W.nsIn K mainGlobals "MOST_PASSES" = some (some (.int xP tP)))
    (eP : xP = 40)
    (vMa : PySem.W.nsIn K mainGlobals "MARKS" = some (some (.ref qMa)))
    (lMa : K.lookup qMa = some ⟨.type "tuple", none, .seq iMa nMa, sMa⟩)
    (eMa : (iMa.toList.map valStr == (marks3).map some) = true)
    (vPl : PySem.W.nsIn K mainGlobals "PLAIN_WORDS" = some (some (.ref qPl)))
    (lPl : K.lookup qPl = some ⟨.type "tuple", none, .seq iPl nPl, sPl⟩)
    (ePl : (iPl.toList.map valStr == (plain6).map some) = true)
    (vLa : PySem.W.nsIn K mainGlobals "LABEL_WORDS" = some (some (.ref qLa)))
    (lLa : K.lookup qLa = some ⟨.type "tuple", none, .seq iLa nLa, sLa⟩)
    (eLa : (iLa.toList.map valStr == (lab2).map some) = true)
    (aCE : PySem.W.nsIn K mainGlobals "ClockError" = some (some (.ref CE)))
    (sE : PySem.W.subIn K (.ref CE) (.type "BaseException") = some true)
    (iE : PySem.W.isClsIn K CE = true)
    (tE : PySem.W.typeIn K (.ref CE) = some (.type "type"))
    (rd : PySem.W.readsIn K CE (.type "type") = true)
    (gE : PySem.W.specialIn K (.ref CE) "__getattribute__" = some (some (.builtin "type.__getattribute__")))
    (fE : PySem.W.findCls K (.ref CE) (.type "type") "__init__" = some (.val (.builtin "ValueError.__init__")))
    (spO : PySem.W.specialIn K (.builtin "object.__class__") "__get__" = some (some (.builtin "getset_descriptor.__get__")))
    (tkO : PySem.W.takesIn K (.builtin "object.__class__") = some true)
    (aE1 : PySem.W.nsIn K mainGlobals "BadPassesText" = some (some (.ref E1)))
    (kE1 : PySem.W.keepIn K (.ref E1) = true)
    (xLE1 : K.lookup E1 = some (excClassObj nmE1 qE1 E1 NE1 bsE1 bmE1 true snE1 subE1 abE1 colE1 ddE1 m0E1 m1E1 m2E1 m3E1 m5E1 "ValueError.__new__"))
    (xRE1 : PySem.HandSPX.refsVE bmE1 = true)
    (saE1 : PySem.W.findIn K (.ref E1) "__setattr__" = some (some (.builtin "object.__setattr__")))
    (niE1 : PySem.W.findIn K (.ref E1) "index" = some none)
    (tIE1 : PySem.W.typeIn K (.ref f36) = some (.type "function"))
    (sBE1 : PySem.W.subIn K (.ref E1) (.type "BaseException") = some true)
    (tE1 : PySem.W.typeIn K (.ref E1) = some (.type "type"))
    (sEE1 : PySem.W.subIn K (.ref E1) (.ref CE) = some true)
    (gE1 : PySem.W.findIn K (.ref E1) "__getattribute__" = some (some (.builtin "BaseException.__getattribute__")))
    (ggE1 : PySem.W.findIn K (.ref E1) "__getattr__" = some none)
    (hdE1 : PySem.W.hasDictIn K E1 = true)
    (clE1 : PySem.W.findIn K (.ref E1) "__class__" = some (some (.builtin "object.__class__")))
    (mrE1 : PySem.W.mroIn K E1 (.type "object") = some true)
    (aE2 : PySem.W.nsIn K mainGlobals "BadPasses" = some (some (.ref E2)))
    (kE2 : PySem.W.keepIn K (.ref E2) = true)
    (xLE2 : K.lookup E2 = some (excClassObj nmE2 qE2 E2 NE2 bsE2 bmE2 true snE2 subE2 abE2 colE2 ddE2 m0E2 m1E2 m2E2 m3E2 m5E2 "ValueError.__new__"))
    (xRE2 : PySem.HandSPX.refsVE bmE2 = true)
    (saE2 : PySem.W.findIn K (.ref E2) "__setattr__" = some (some (.builtin "object.__setattr__")))
    (niE2 : PySem.W.findIn K (.ref E2) "index" = some none)
    (tIE2 : PySem.W.typeIn K (.ref f37) = some (.type "function"))
    (sBE2 : PySem.W.subIn K (.ref E2) (.type "BaseException") = some true)
    (tE2 : PySem.W.typeIn K (.ref E2) = some (.type "type"))
    (sEE2 : PySem.W.subIn K (.ref E2) (.ref CE) = some true)
    (gE2 : PySem.W.findIn K (.ref E2) "__getattribute__" = some (some (.builtin "BaseException.__getattribute__")))
    (ggE2 : PySem.W.findIn K (.ref E2) "__getattr__" = some none)
    (hdE2 : PySem.W.hasDictIn K E2 = true)
    (clE2 : PySem.W.findIn K (.ref E2) "__class__" = some (some (.builtin "object.__class__")))
    (mrE2 : PySem.W.mroIn K E2 (.type "object") = some true)
    (aE3 : PySem.W.nsIn K mainGlobals "BadLabelText" = some (some (.ref E3)))
    (kE3 : PySem.W.keepIn K (.ref E3) = true)
    (xE3 : PySem.W.excIn K E3 [.type "ValueError", .type "Exception", .type "BaseException", .type "object"] "ValueError.__new__" = true)
    (sBE3 : PySem.W.subIn K (.ref E3) (.type "BaseException") = some true)
    (tE3 : PySem.W.typeIn K (.ref E3) = some (.type "type"))
    (sEE3 : PySem.W.subIn K (.ref E3) (.ref CE) = some true)
    (gE3 : PySem.W.findIn K (.ref E3) "__getattribute__" = some (some (.builtin "BaseException.__getattribute__")))
    (ggE3 : PySem.W.findIn K (.ref E3) "__getattr__" = some none)
    (hdE3 : PySem.W.hasDictIn K E3 = true)
    (clE3 : PySem.W.findIn K (.ref E3) "__class__" = some (some (.builtin "object.__class__")))
    (mrE3 : PySem.W.mroIn K E3 (.type "object") = some true)
    (aE4 : PySem.W.nsIn K mainGlobals "BadLabel" = some (some (.ref E4)))
    (kE4 : PySem.W.keepIn K (.ref E4) = true)
    (xE4 : PySem.W.excIn K E4 [.type "ValueError", .type "Exception", .type "BaseException", .type "object"] "ValueError.__new__" = true)
    (sBE4 : PySem.W.subIn K (.ref E4) (.type "BaseException") = some true)
    (tE4 : PySem.W.typeIn K (.ref E4) = some (.type "type"))
    (sEE4 : PySem.W.subIn K (.ref E4) (.ref CE) = some true)
    (gE4 : PySem.W.findIn K (.ref E4) "__getattribute__" = some (some (.builtin "BaseException.__getattribute__")))
    (ggE4 : PySem.W.findIn K (.ref E4) "__getattr__" = some none)
    (hdE4 : PySem.W.hasDictIn K E4 = true)
    (clE4 : PySem.W.findIn K (.ref E4) "__class__" = some (some (.builtin "object.__class__")))
    (mrE4 : PySem.W.mroIn K E4 (.type "object") = some true)
    (hdrT1 : PySem.W.codeHdIn K cR T1 = true)
    (npT1 : K.lookup T1 = none)
    (hTT1 : h.get? T1 = some { cls := .none, data := .fields #[] })
    (hdrT2 : PySem.W.codeHdIn K cL T2 = true)
    (npT2 : K.lookup T2 = none)
    (hTT2 : h.get? T2 = some { cls := .none, data := .fields #[] })
    (hne : T1 ≠ T2)
    : LamX.LawAtS l w K CX0 12 63 "script" mg fa h := by
  have e := hfa.symm.trans (PySem.W.mg_of X G a35)
  cases e
  subst eS eD eG eF eN eM eP
  have F1 := fun_mk (st := sWhl) l1 c1 k1
  have b1 := F1.binds (ps := ["value"]) fun _ _ _ _ _ _ us hl => match us, hl with | [_], _ => rfl
  have F2 := fun_mk (st := sWin) l2 c2 k2
  have b2 := F2.binds (ps := ["value", "low", "high"]) fun _ _ _ _ _ _ us hl => match us, hl with | [_, _, _], _ => rfl
  have F3 := fun_mk (st := sLs) l3 c3 k3
  have b3 := F3.binds (ps := ["value"]) fun _ _ _ _ _ _ us hl => match us, hl with | [_], _ => rfl
  have F4 := fun_mk (st := sTof) l4 c4 k4
  have b4 := F4.binds (ps := ["value", "many"]) fun _ _ _ _ _ _ us hl => match us, hl with | [_, _], _ => rfl
  have F5 := fun_mk (st := sTin) l5 c5 k5
  have b5 := F5.binds (ps := ["value", "low", "high"]) fun _ _ _ _ _ _ us hl => match us, hl with | [_, _, _], _ => rfl
  have F6 := fun_mk (st := sCode) l6 c6 k6
  have b6 := F6.binds (ps := ["value"]) fun _ _ _ _ _ _ us hl => match us, hl with | [_], _ => rfl
  have F7 := fun_mk (st := sSta) l7 c7 k7
  have b7 := F7.binds (ps := ["value"]) fun _ _ _ _ _ _ us hl => match us, hl with | [_], _ => rfl
  have F8 := fun_mk (st := sMk) l8 c8 k8
  have b8 := F8.binds (ps := ["value"]) fun _ _ _ _ _ _ us hl => match us, hl with | [_], _ => rfl
  have F9 := fun_mk (st := sWd) l9 c9 k9
  have b9 := F9.binds (ps := ["value"]) fun _ _ _ _ _ _ us hl => match us, hl with | [_], _ => rfl
  have F10 := fun_mk (st := sNW) l10 c10 k10
  have b10 := F10.binds (ps := ["words"]) fun _ _ _ _ _ _ us hl => match us, hl with | [_], _ => rfl
  have F11 := fun_mk (st := sWh) l11 c11 k11
  have b11 := F11.binds (ps := ["text"]) fun _ _ _ _ _ _ us hl => match us, hl with | [_], _ => rfl
  have F12 := fun_mk (st := sLX) l12 c12 k12
  have b12 := F12.binds (ps := ["label"]) fun _ _ _ _ _ _ us hl => match us, hl with | [_], _ => rfl
  have F13 := fun_mk (st := sTL) l13 c13 k13
  have b13 := F13.binds (ps := ["label"]) fun _ _ _ _ _ _ us hl => match us, hl with | [_], _ => rfl
  have F14 := fun_mk (st := sLO) l14 c14 k14
  have b14 := F14.binds (ps := ["text"]) fun _ _ _ _ _ _ us hl => match us, hl with | [_], _ => rfl
  have F15 := fun_mk (st := sTold) l15 c15 k15
  have b15 := F15.binds (ps := ["text"]) fun _ _ _ _ _ _ us hl => match us, hl with | [_], _ => rfl
  have F16 := fun_mk (st := sPr) l16 c16 k16
  have b16 := F16.binds (ps := ["text"]) fun _ _ _ _ _ _ us hl => match us, hl with | [_], _ => rfl
  have F17 := fun_mk (st := sPT) l17 c17 k17
  have b17 := F17.binds (ps := ["words"]) fun _ _ _ _ _ _ us hl => match us, hl with | [_], _ => rfl
  have F18 := fun_mk (st := sTW) l18 c18 k18
  have b18 := F18.binds (ps := ["word"]) fun _ _ _ _ _ _ us hl => match us, hl with | [_], _ => rfl
  have F19 := fun_mk (st := sPO) l19 c19 k19
  have b19 := F19.binds (ps := ["text"]) fun _ _ _ _ _ _ us hl => match us, hl with | [_], _ => rfl
  have F20 := fun_mk (st := sWT) l20 c20 k20
  have b20 := F20.binds (ps := ["text"]) fun _ _ _ _ _ _ us hl => match us, hl with | [_], _ => rfl
  have F21 := fun_mk (st := sBeg) l21 c21 k21
  have b21 := F21.binds (ps := ["script"]) fun _ _ _ _ _ _ us hl => match us, hl with | [_], _ => rfl
  have F22 := fun_mk (st := sMix) l22 c22 k22
  have b22 := F22.binds (ps := ["state"]) fun _ _ _ _ _ _ us hl => match us, hl with | [_], _ => rfl
  have F23 := fun_mk (st := sDrw) l23 c23 k23
  have b23 := F23.binds (ps := ["state", "room"]) fun _ _ _ _ _ _ us hl => match us, hl with | [_, _], _ => rfl
  have F24 := fun_mk (st := sPck) l24 c24 k24
  have b24 := F24.binds (ps := ["state", "some"]) fun _ _ _ _ _ _ us hl => match us, hl with | [_, _], _ => rfl
  have F25 := fun_mk (st := sCgt) l25 c25 k25
  have b25 := F25.binds (ps := ["action"]) fun _ _ _ _ _ _ us hl => match us, hl with | [_], _ => rfl
  have F26 := fun_mk (st := sLP) l26 c26 k26
  have b26 := F26.binds (ps := ["state"]) fun _ _ _ _ _ _ us hl => match us, hl with | [_], _ => rfl
  have F27 := fun_mk (st := sLL) l27 c27 k27
  have b27 := F27.binds (ps := ["state"]) fun _ _ _ _ _ _ us hl => match us, hl with | [_], _ => rfl
  have F28 := fun_mk (st := sLTL) l28 c28 k28
  have b28 := F28.binds (ps := ["label"]) fun _ _ _ _ _ _ us hl => match us, hl with | [_], _ => rfl
  have F29 := fun_mk (st := sLW) l29 c29 k29
  have b29 := F29.binds (ps := ["text", "most"]) fun _ _ _ _ _ _ us hl => match us, hl with | [_, _], _ => rfl
  have F30 := fun_mk (st := sRL) l30 c30 k30
  have b30 := F30.binds (ps := ["text"]) fun _ _ _ _ _ _ us hl => match us, hl with | [_], _ => rfl
  have F31 := fun_mk (st := sRP) l31 c31 k31
  have b31 := F31.binds (ps := ["text"]) fun _ _ _ _ _ _ us hl => match us, hl with | [_], _ => rfl
  have F32 := fun_mk (st := sLB) l32 c32 k32
  have b32 := F32.binds (ps := ["state", "text"]) fun _ _ _ _ _ _ us hl => match us, hl with | [_, _], _ => rfl
  have F33 := fun_mk (st := sLR) l33 c33 k33
  have b33 := F33.binds (ps := ["state"]) fun _ _ _ _ _ _ us hl => match us, hl with | [_], _ => rfl
  have F34 := fun_mk (st := sPR) l34 c34 k34
  have b34 := F34.binds (ps := ["state"]) fun _ _ _ _ _ _ us hl => match us, hl with | [_], _ => rfl
  have F35 := fun_mk (st := sLaw) l35 c35 k35
  have b35 := F35.binds (ps := ["script"]) fun _ _ _ _ _ _ us hl => match us, hl with | [_], _ => rfl
  have F36 := fun_mk (st := sIT) l36 c36 k36
  have b36 := F36.binds (ps := ["self", "index"]) fun _ _ _ _ _ _ us hl => match us, hl with | [_, _], _ => rfl
  have F37 := fun_mk (st := sIP) l37 c37 k37
  have b37 := F37.binds (ps := ["self", "index"]) fun _ _ _ _ _ _ us hl => match us, hl with | [_, _], _ => rfl
  have eMa' := vals_of (eq_of_beq eMa)
  have zMa : iMa.size ≤ sizeLine := by
    have := congrArg List.length (eq_of_beq eMa)
    rw [List.length_map, List.length_map, Array.length_toList] at this
    rw [this, sizeLine_eq]
    decide
  have gMa : GT K mg "MARKS" marks3 := ⟨qMa, _, PySem.W.mg_of X G vMa, fun H => .inr ⟨_, iMa, nMa, lMa, rfl, rfl, zMa, eMa'⟩, lMa, rfl, rfl⟩
  have ePl' := vals_of (eq_of_beq ePl)
  have zPl : iPl.size ≤ sizeLine := by
    have := congrArg List.length (eq_of_beq ePl)
    rw [List.length_map, List.length_map, Array.length_toList] at this
    rw [this, sizeLine_eq]
    decide
  have gPl : GT K mg "PLAIN_WORDS" plain6 := ⟨qPl, _, PySem.W.mg_of X G vPl, fun H => .inr ⟨_, iPl, nPl, lPl, rfl, rfl, zPl, ePl'⟩, lPl, rfl, rfl⟩
  have eLa' := vals_of (eq_of_beq eLa)
  have zLa : iLa.size ≤ sizeLine := by
    have := congrArg List.length (eq_of_beq eLa)
    rw [List.length_map, List.length_map, Array.length_toList] at this
    rw [this, sizeLine_eq]
    decide
  have gLa : GT K mg "LABEL_WORDS" lab2 := ⟨qLa, _, PySem.W.mg_of X G vLa, fun H => .inr ⟨_, iLa, nLa, lLa, rfl, rfl, zLa, eLa'⟩, lLa, rfl, rfl⟩
  have gS : ∃ t, mg "MARK_SIGNS" = some (.str sg3 t) := ⟨_, PySem.W.mg_of X G vS⟩
  have gD : ∃ t, mg "DIGITS" = some (.str D10 t) := ⟨_, PySem.W.mg_of X G vD⟩
  have gG : ∃ t, mg "MOST_DIGITS" = some (.int (30 : Int) t) := ⟨_, PySem.W.mg_of X G vG⟩
  have gF : ∃ t, mg "MOST_FUNCTION" = some (.int (5 : Int) t) := ⟨_, PySem.W.mg_of X G vF⟩
  have gN : ∃ t, mg "MOST_NUMBER" = some (.int (999 : Int) t) := ⟨_, PySem.W.mg_of X G vN⟩
  have gM : ∃ t, mg "MOST_MARKS" = some (.int (8 : Int) t) := ⟨_, PySem.W.mg_of X G vM⟩
  have gP : ∃ t, mg "MOST_PASSES" = some (.int (40 : Int) t) := ⟨_, PySem.W.mg_of X G vP⟩
  have TP : MgP K mg f1 := ⟨(PySem.W.mg_of X G a1), k1, (PySem.W.mg_none_of X G z_isinstance), (PySem.W.mg_none_of X G z_len), (PySem.W.mg_none_of X G z_int), (PySem.W.mg_none_of X G z_bool), (PySem.W.mg_none_of X G z_tuple)⟩
  have B : Bn mg := ⟨(PySem.W.mg_none_of X G z_isinstance), (PySem.W.mg_none_of X G z_len), (PySem.W.mg_none_of X G z_str), (PySem.W.mg_none_of X G z_int), (PySem.W.mg_none_of X G z_bool), (PySem.W.mg_none_of X G z_tuple), (PySem.W.mg_none_of X G z_list), (PySem.W.mg_none_of X G z_all), (PySem.W.mg_none_of X G z_range), (PySem.W.mg_none_of X G z_min), (PySem.W.mg_none_of X G z_zip), (PySem.W.mg_none_of X G z_enumerate)⟩
  have TS : MgS K mg f22 f23 := ⟨(PySem.W.mg_none_of X G z_int), (PySem.W.mg_none_of X G z_len), (PySem.W.mg_of X G a22), k22, (PySem.W.mg_of X G a23), k23⟩
  have RE1 : Ei K mg "BadPassesText" CE E1 f36 := ⟨PySem.W.mg_of X G aE1, PySem.W.mg_of X G aCE, ⟨rd, gE, fE⟩, ⟨⟨_, _, _, _, _, _, _, _, _, _, _, _, _, _, _, xLE1, xRE1⟩, saE1, sBE1, tE1, kE1⟩, niE1, a36, tIE1⟩
  have YE1 : Ex1 K E1 := ⟨⟨gE1, ggE1, sBE1, hdE1⟩, niE1⟩
  have RE2 : Ei K mg "BadPasses" CE E2 f37 := ⟨PySem.W.mg_of X G aE2, PySem.W.mg_of X G aCE, ⟨rd, gE, fE⟩, ⟨⟨_, _, _, _, _, _, _, _, _, _, _, _, _, _, _, xLE2, xRE2⟩, saE2, sBE2, tE2, kE2⟩, niE2, a37, tIE2⟩
  have YE2 : Ex1 K E2 := ⟨⟨gE2, ggE2, sBE2, hdE2⟩, niE2⟩
  have RE3 : Er K mg "BadLabelText" E3 := ⟨PySem.W.mg_of X G aE3, xE3, kE3, sBE3, tE3⟩
  have RE4 : Er K mg "BadLabel" E4 := ⟨PySem.W.mg_of X G aE4, xE4, kE4, sBE4, tE4⟩
  have KE1 : Ek K mg "BadPassesText" CE E1 := ⟨PySem.W.mg_of X G aE1, exm_of sE iE tE sEE1, ⟨gE1, ggE1, sBE1, hdE1, clE1, spO, tkO, mrE1⟩⟩
  have KE2 : Ek K mg "BadPasses" CE E2 := ⟨PySem.W.mg_of X G aE2, exm_of sE iE tE sEE2, ⟨gE2, ggE2, sBE2, hdE2, clE2, spO, tkO, mrE2⟩⟩
  have KE3 : Ek K mg "BadLabelText" CE E3 := ⟨PySem.W.mg_of X G aE3, exm_of sE iE tE sEE3, ⟨gE3, ggE3, sBE3, hdE3, clE3, spO, tkO, mrE3⟩⟩
  have KE4 : Ek K mg "BadLabel" CE E4 := ⟨PySem.W.mg_of X G aE4, exm_of sE iE tE sEE4, ⟨gE4, ggE4, sBE4, hdE4, clE4, spO, tkO, mrE4⟩⟩
  have TC : MgC mg K CE f25 := ⟨(PySem.W.mg_of X G a25), k25, PySem.W.mg_of X G aCE⟩
  have ma := (PySem.W.mg_none_of X G z_abs)
  refine ⟨PySem.W.fnOf "law" "law" (defArgs sLaw) (defBody sLaw) (defScope sLaw) .none kV35 dc35 pm35 an35 cd35 ct35, [(cR, T1), (cL, T2)], spLaw K T1 T2, fun p hp => ?_, fun p hp => ?_, fun p hp => ?_, fun s u => .of_eq rfl, fun H a ns hl _ hp hS => ?_, fun base KB GB hTB => ?_⟩
  · rcases List.mem_cons.mp hp with rfl | hp
    · exact hTT1
    · rw [List.mem_singleton.mp hp]
      exact hTT2
  · rcases List.mem_cons.mp hp with rfl | hp
    · exact npT1
    · rw [List.mem_singleton.mp hp]
      exact npT2
  · rcases List.mem_cons.mp hp with rfl | hp
    · exact PySem.W.codeHd_of_K X hdrT1
    · rw [List.mem_singleton.mp hp]
      exact PySem.W.codeHd_of_K X hdrT2
  · exact ⟨a, ns, rfl, hS, hl, hp _ (List.mem_cons_self ..), hp _ (List.mem_cons_of_mem _ (List.mem_cons_self ..)), fun _ => rfl⟩
  · have G_is_whole := ok_whl (P := l.prog) (w := w) (base := base) F1 TP
    have G_is_within := ok_win (P := l.prog) (w := w) (base := base) F2 TP F1 b1
    have G_is_tuple_of := ok_tof (P := l.prog) (w := w) (base := base) F4 TP
    have G_is_tuple_within := ok_tin (P := l.prog) (w := w) (base := base) F5 TP
    have G_is_list := ok_ls (P := l.prog) (w := w) (base := base) F3 B
    have G_is_station := ok_sta (P := l.prog) (w := w) (base := base) F7 B ⟨f4, _, G_is_tuple_of, (PySem.W.mg_of X G a4), k4, b4⟩ ⟨f2, _, G_is_within, (PySem.W.mg_of X G a2), k2, b2⟩ gF gN
    have G_is_mark := ok_mk (P := l.prog) (w := w) (base := base) F8 B ⟨f4, _, G_is_tuple_of, (PySem.W.mg_of X G a4), k4, b4⟩ ⟨f7, _, G_is_station, (PySem.W.mg_of X G a7), k7, b7⟩ (let ⟨a, _, e, q, _⟩ := gMa; ⟨a, e, q⟩)
    have G_is_code_label := ok_code (P := l.prog) (w := w) (base := base) F6 B ⟨f4, _, G_is_tuple_of, (PySem.W.mg_of X G a4), k4, b4⟩ ⟨f5, _, G_is_tuple_within, (PySem.W.mg_of X G a5), k5, b5⟩ ⟨f7, _, G_is_station, (PySem.W.mg_of X G a7), k7, b7⟩ ⟨f8, _, G_is_mark, (PySem.W.mg_of X G a8), k8, b8⟩ gM
    have G_text_of_label := ok_tlb (P := l.prog) (w := w) (base := base) F13 gMa gS
    have G__law_told_label := ok_ltl (P := l.prog) (w := w) (base := base) F28 B
    have G_whole_of := ok_wh (P := l.prog) (w := w) (base := base) F11 B gG gD
    have G__pair_told := ok_pr (P := l.prog) (w := w) (base := base) F16 B ⟨f11, _, G_whole_of, (PySem.W.mg_of X G a11), k11, b11⟩ gF gN
    have G_label_told := ok_tld (P := l.prog) (w := w) (base := base) F15 B ⟨f16, _, G__pair_told, (PySem.W.mg_of X G a16), k16, b16⟩ gMa gS gM
    have G_is_word := ok_wd (P := l.prog) (w := w) (base := base) F9 ⟨f4, _, G_is_tuple_of, (PySem.W.mg_of X G a4), k4, b4⟩ ⟨f6, _, G_is_code_label, (PySem.W.mg_of X G a6), k6, b6⟩ gPl gLa
    have G_label_text := ok_lx (P := l.prog) (w := w) (base := base) F12 RE4 ⟨f6, _, G_is_code_label, (PySem.W.mg_of X G a6), k6, b6⟩ ⟨f13, _, G_text_of_label, (PySem.W.mg_of X G a13), k13, b13⟩
    have G_label_of := ok_lo (P := l.prog) (w := w) (base := base) F14 B RE3 ⟨f15, _, G_label_told, (PySem.W.mg_of X G a15), k15, b15⟩
    have G_text_of_word := ok_tw (P := l.prog) (w := w) (base := base) F18 B ⟨f13, _, G_text_of_label, (PySem.W.mg_of X G a13), k13, b13⟩
    have G_word_told := ok_wt (P := l.prog) (w := w) (base := base) F20 ⟨f15, _, G_label_told, (PySem.W.mg_of X G a15), k15, b15⟩ gPl gLa
    have G_iP := ok_ip (P := l.prog) (w := w) (base := base) F37 RE2
    have G_iT := ok_it (P := l.prog) (w := w) (base := base) F36 RE1
    have G_need_words := ok_nw (P := l.prog) (w := w) (base := base) F10 B RE2 G_iP b37 ⟨f3, _, G_is_list, (PySem.W.mg_of X G a3), k3, b3⟩ ⟨f9, _, G_is_word, (PySem.W.mg_of X G a9), k9, b9⟩ gP
    have G_passes_text := ok_pt (P := l.prog) (w := w) (base := base) F17 ⟨f10, _, G_need_words, (PySem.W.mg_of X G a10), k10, b10⟩ ⟨f18, _, G_text_of_word, (PySem.W.mg_of X G a18), k18, b18⟩
    have G_passes_of := ok_po (P := l.prog) (w := w) (base := base) F19 B RE1 G_iT b36 ⟨f20, _, G_word_told, (PySem.W.mg_of X G a20), k20, b20⟩ gP
    have G__law_draw := ok_drw (P := l.prog) (w := w) (base := base) F23 TS F22 b22
    have G__law_pick := ok_pck (P := l.prog) (w := w) (base := base) F24 TS F22 b22 F23 b23
    have G__law_begun := ok_beg (P := l.prog) (w := w) (base := base) F21 ma
    have G__law_pair := ok_lp (P := l.prog) (w := w) (base := base) F26 ⟨f23, _, G__law_draw, (PySem.W.mg_of X G a23), k23, b23⟩ ⟨f24, _, G__law_pick, (PySem.W.mg_of X G a24), k24, b24⟩
    have G__law_label := ok_ll (P := l.prog) (w := w) (base := base) F27 B ⟨f24, _, G__law_pick, (PySem.W.mg_of X G a24), k24, b24⟩ ⟨f26, _, G__law_pair, (PySem.W.mg_of X G a26), k26, b26⟩
    have G__law_whole := ok_lw (P := l.prog) (w := w) (base := base) F29 B
    have G__law_read_label := ok_rl (P := l.prog) (w := w) (base := base) F30 B ⟨f29, _, G__law_whole, (PySem.W.mg_of X G a29), k29, b29⟩
    have G__law_read_pass := ok_rp (P := l.prog) (w := w) (base := base) F31 B ⟨f30, _, G__law_read_label, (PySem.W.mg_of X G a30), k30, b30⟩
    have G__law_bent := ok_lb (P := l.prog) (w := w) (base := base) F32 B ⟨f23, _, G__law_draw, (PySem.W.mg_of X G a23), k23, b23⟩ ⟨f24, _, G__law_pick, (PySem.W.mg_of X G a24), k24, b24⟩
    have kb_label_text : KBinds K (PySem.W.fnOf "label_text" "label_text" (defArgs sLX) (defBody sLX) (defScope sLX) .none kV12 dc12 pm12 an12 cd12 ct12) ["label"] ["label"] (fun us ws => us ++ ws) (fun us ws => us ++ ws) :=
      ⟨fun s us ws _ hl => match us, ws, hl with | [], [_], _ => .of_eq rfl | [_], [], _ => .of_eq rfl, fun r1 r2 => paired_app r1 r2⟩
    have kb_label_of : KBinds K (PySem.W.fnOf "label_of" "label_of" (defArgs sLO) (defBody sLO) (defScope sLO) .none kV14 dc14 pm14 an14 cd14 ct14) ["text"] ["text"] (fun us ws => us ++ ws) (fun us ws => us ++ ws) :=
      ⟨fun s us ws _ hl => match us, ws, hl with | [], [_], _ => .of_eq rfl | [_], [], _ => .of_eq rfl, fun r1 r2 => paired_app r1 r2⟩
    have kb_passes_text : KBinds K (PySem.W.fnOf "passes_text" "passes_text" (defArgs sPT) (defBody sPT) (defScope sPT) .none kV17 dc17 pm17 an17 cd17 ct17) ["words"] ["words"] (fun us ws => us ++ ws) (fun us ws => us ++ ws) :=
      ⟨fun s us ws _ hl => match us, ws, hl with | [], [_], _ => .of_eq rfl | [_], [], _ => .of_eq rfl, fun r1 r2 => paired_app r1 r2⟩
    have kb_passes_of : KBinds K (PySem.W.fnOf "passes_of" "passes_of" (defArgs sPO) (defBody sPO) (defScope sPO) .none kV19 dc19 pm19 an19 cd19 ct19) ["text"] ["text"] (fun us ws => us ++ ws) (fun us ws => us ++ ws) :=
      ⟨fun s us ws _ hl => match us, ws, hl with | [], [_], _ => .of_eq rfl | [_], [], _ => .of_eq rfl, fun r1 r2 => paired_app r1 r2⟩
    have G__law_labels_right := ok_lr (P := l.prog) (w := w) (base := base) l33 c33 l25 c25 (Binds.all fun us hl => match us, hl with | [_], _ => rfl) B TC KE3 KE4 (hTB _ (List.mem_cons_self ..)) hne ⟨f27, _, G__law_label, (PySem.W.mg_of X G a27), k27, b27⟩ ⟨f28, _, G__law_told_label, (PySem.W.mg_of X G a28), k28, b28⟩ ⟨f12, _, G_label_text, (PySem.W.mg_of X G a12), k12, b12, kb_label_text⟩ ⟨f14, _, G_label_of, (PySem.W.mg_of X G a14), k14, b14, kb_label_of⟩ ⟨f32, _, G__law_bent, (PySem.W.mg_of X G a32), k32, b32⟩ ⟨f30, _, G__law_read_label, (PySem.W.mg_of X G a30), k30, b30⟩ ⟨f24, _, G__law_pick, (PySem.W.mg_of X G a24), k24, b24⟩
    have G__law_passes_right := ok_pr2 (P := l.prog) (w := w) (base := base) l34 c34 l25 c25 (Binds.all fun us hl => match us, hl with | [_], _ => rfl) B TC KE1 KE2 YE1 YE2 (hTB _ (List.mem_cons_of_mem _ (List.mem_cons_self ..))) hne ⟨f27, _, G__law_label, (PySem.W.mg_of X G a27), k27, b27⟩ ⟨f28, _, G__law_told_label, (PySem.W.mg_of X G a28), k28, b28⟩ ⟨f17, _, G_passes_text, (PySem.W.mg_of X G a17), k17, b17, kb_passes_text⟩ ⟨f19, _, G_passes_of, (PySem.W.mg_of X G a19), k19, b19, kb_passes_of⟩ ⟨f32, _, G__law_bent, (PySem.W.mg_of X G a32), k32, b32⟩ ⟨f31, _, G__law_read_pass, (PySem.W.mg_of X G a31), k31, b31⟩ ⟨f24, _, G__law_pick, (PySem.W.mg_of X G a24), k24, b24⟩ ⟨f23, _, G__law_draw, (PySem.W.mg_of X G a23), k23, b23⟩
    exact ok_law (P := l.prog) (w := w) (base := base) F35 B ⟨f21, _, G__law_begun, (PySem.W.mg_of X G a21), k21, b21⟩ ⟨f33, _, G__law_labels_right, (PySem.W.mg_of X G a33), k33, b33⟩ ⟨f34, _, G__law_passes_right, (PySem.W.mg_of X G a34), k34, b34⟩
end K80

open PySem PySem.W PyProof.Rows
set_option Elab.async false
set_option pp.maxSteps 700
set_option maxRecDepth 100000 in
set_option maxHeartbeats 0 in
theorem PySem.Challenge.cw_labelclocks_k80_texts_of_labels_and_pass_holds : PySem.Challenge.rw_labelclocks_k80_texts_of_labels_and_pass.Holds := by
  w_on; o_law; k_head; (case hw => w_witness2)
  k_fill
  refine LamX.walk_ofTs (l := PySem.Challenge.rw_labelclocks_k80_texts_of_labels_and_pass) (n := 63) (k := 12) (x := "script") (CX := fun _ => L2.CX0) rfl (by decide) rfl ⟨rfl, by decide, by decide⟩ (fun w h Y => PySem.W.km_in_of Y) ?F (fun _ _ _ _ _ z => z)
  case F =>
    intro w mg fa h Y KX G hmg
    have hT8 := PySem.W.km_tabs_of Y
    refine' K80.all_mk KX G hmg ?a1 ?l1 ?c1 ?k1 ?a2 ?l2 ?c2 ?k2 ?a3 ?l3 ?c3 ?k3 ?a4 ?l4 ?c4 ?k4 ?a5 ?l5 ?c5 ?k5 ?a6 ?l6 ?c6 ?k6 ?a7 ?l7 ?c7 ?k7 ?a8 ?l8 ?c8 ?k8 ?a9 ?l9 ?c9 ?k9 ?a10 ?l10 ?c10 ?k10 ?a11 ?l11 ?c11 ?k11 ?a12 ?l12 ?c12 ?k12 ?a13 ?l13 ?c13 ?k13 ?a14 ?l14 ?c14 ?k14 ?a15 ?l15 ?c15 ?k15 ?a16 ?l16 ?c16 ?k16 ?a17 ?l17 ?c17 ?k17 ?a18 ?l18 ?c18 ?k18 ?a19 ?l19 ?c19 ?k19 ?a20 ?l20 ?c20 ?k20 ?a21 ?l21 ?c21 ?k21 ?a22 ?l22 ?c22 ?k22 ?a23 ?l23 ?c23 ?k23 ?a24 ?l24 ?c24 ?k24 ?a25 ?l25 ?c25 ?k25 ?a26 ?l26 ?c26 ?k26 ?a27 ?l27 ?c27 ?k27 ?a28 ?l28 ?c28 ?k28 ?a29 ?l29 ?c29 ?k29 ?a30 ?l30 ?c30 ?k30 ?a31 ?l31 ?c31 ?k31 ?a32 ?l32 ?c32 ?k32 ?a33 ?l33 ?c33 ?k33 ?a34 ?l34 ?c34 ?k34 ?a35 ?l35 ?c35 ?k35 ?a36 ?l36 ?c36 ?k36 ?a37 ?l37 ?c37 ?k37 ?z_isinstance ?z_len ?z_str ?z_int ?z_bool ?z_tuple ?z_list ?z_all ?z_range ?z_min ?z_zip ?z_enumerate ?z_abs ?vS ?eS ?vD ?eD ?vG ?eG ?vF ?eF ?vN ?eN ?vM ?eM ?vP ?eP ?vMa ?lMa ?eMa ?vPl ?lPl ?ePl ?vLa ?lLa ?eLa ?aCE ?sE ?iE ?tE ?rd ?gE ?fE ?spO ?tkO ?aE1 ?kE1 ?xLE1 ?xRE1 ?saE1 ?niE1 ?tIE1 ?sBE1 ?tE1 ?sEE1 ?gE1 ?ggE1 ?hdE1 ?clE1 ?mrE1 ?aE2 ?kE2 ?xLE2 ?xRE2 ?saE2 ?niE2 ?tIE2 ?sBE2 ?tE2 ?sEE2 ?gE2 ?ggE2 ?hdE2 ?clE2 ?mrE2 ?aE3 ?kE3 ?xE3 ?sBE3 ?tE3 ?sEE3 ?gE3 ?ggE3 ?hdE3 ?clE3 ?mrE3 ?aE4 ?kE4 ?xE4 ?sBE4 ?tE4 ?sEE4 ?gE4 ?ggE4 ?hdE4 ?clE4 ?mrE4 ?hdrT1 ?npT1 ?hTT1 ?hdrT2 ?npT2 ?hTT2 ?hne
    (case aCE => k_is)
    (case aE1 => k_is)
    (case aE2 => k_is)
    (case aE3 => k_is)
    (case aE4 => k_is)
    (case a1 => k_is)
    (case l1 => k_is)
    (case c1 => k_is)
    (case k1 => k_is)
    (case a2 => k_is)
    (case l2 => k_is)
    (case c2 => k_is)
    (case k2 => k_is)
    (case a3 => k_is)
    (case l3 => k_is)
    (case c3 => k_is)
    (case k3 => k_is)
    (case a4 => k_is)
    (case l4 => k_is)
    (case c4 => k_is)
    (case k4 => k_is)
    (case a5 => k_is)
    (case l5 => k_is)
    (case c5 => k_is)
    (case k5 => k_is)
    (case a6 => k_is)
    (case l6 => k_is)
    (case c6 => k_is)
    (case k6 => k_is)
    (case a7 => k_is)
    (case l7 => k_is)
    (case c7 => k_is)
    (case k7 => k_is)
    (case a8 => k_is)
    (case l8 => k_is)
    (case c8 => k_is)
    (case k8 => k_is)
    (case a9 => k_is)
    (case l9 => k_is)
    (case c9 => k_is)
    (case k9 => k_is)
    (case a10 => k_is)
    (case l10 => k_is)
    (case c10 => k_is)
    (case k10 => k_is)
    (case a11 => k_is)
    (case l11 => k_is)
    (case c11 => k_is)
    (case k11 => k_is)
    (case a12 => k_is)
    (case l12 => k_is)
    (case c12 => k_is)
    (case k12 => k_is)
    (case a13 => k_is)
    (case l13 => k_is)
    (case c13 => k_is)
    (case k13 => k_is)
    (case a14 => k_is)
    (case l14 => k_is)
    (case c14 => k_is)
    (case k14 => k_is)
    (case a15 => k_is)
    (case l15 => k_is)
    (case c15 => k_is)
    (case k15 => k_is)
    (case a16 => k_is)
    (case l16 => k_is)
    (case c16 => k_is)
    (case k16 => k_is)
    (case a17 => k_is)
    (case l17 => k_is)
    (case c17 => k_is)
    (case k17 => k_is)
    (case a18 => k_is)
    (case l18 => k_is)
    (case c18 => k_is)
    (case k18 => k_is)
    (case a19 => k_is)
    (case l19 => k_is)
    (case c19 => k_is)
    (case k19 => k_is)
    (case a20 => k_is)
    (case l20 => k_is)
    (case c20 => k_is)
    (case k20 => k_is)
    (case a21 => k_is)
    (case l21 => k_is)
    (case c21 => k_is)
    (case k21 => k_is)
    (case a22 => k_is)
    (case l22 => k_is)
    (case c22 => k_is)
    (case k22 => k_is)
    (case a23 => k_is)
    (case l23 => k_is)
    (case c23 => k_is)
    (case k23 => k_is)
    (case a24 => k_is)
    (case l24 => k_is)
    (case c24 => k_is)
    (case k24 => k_is)
    (case a25 => k_is)
    (case l25 => k_is)
    (case c25 => k_is)
    (case k25 => k_is)
    (case a26 => k_is)
    (case l26 => k_is)
    (case c26 => k_is)
    (case k26 => k_is)
    (case a27 => k_is)
    (case l27 => k_is)
    (case c27 => k_is)
    (case k27 => k_is)
    (case a28 => k_is)
    (case l28 => k_is)
    (case c28 => k_is)
    (case k28 => k_is)
    (case a29 => k_is)
    (case l29 => k_is)
    (case c29 => k_is)
    (case k29 => k_is)
    (case a30 => k_is)
    (case l30 => k_is)
    (case c30 => k_is)
    (case k30 => k_is)
    (case a31 => k_is)
    (case l31 => k_is)
    (case c31 => k_is)
    (case k31 => k_is)
    (case a32 => k_is)
    (case l32 => k_is)
    (case c32 => k_is)
    (case k32 => k_is)
    (case a33 => k_is)
    (case l33 => k_is)
    (case c33 => k_is)
    (case k33 => k_is)
    (case a34 => k_is)
    (case l34 => k_is)
    (case c34 => k_is)
    (case k34 => k_is)
    (case a35 => k_is)
    (case l35 => k_is)
    (case c35 => k_is)
    (case k35 => k_is)
    (case a36 => k_is)
    (case l36 => k_is)
    (case c36 => k_is)
    (case k36 => k_is)
    (case a37 => k_is)
    (case l37 => k_is)
    (case c37 => k_is)
    (case k37 => k_is)
    (case z_isinstance => k_is)
    (case z_len => k_is)
    (case z_str => k_is)
    (case z_int => k_is)
    (case z_bool => k_is)
    (case z_tuple => k_is)
    (case z_list => k_is)
    (case z_all => k_is)
    (case z_range => k_is)
    (case z_min => k_is)
    (case z_zip => k_is)
    (case z_enumerate => k_is)
    (case z_abs => k_is)
    (case vS => k_is)
    (case eS => decide +kernel)
    (case vD => k_is)
    (case eD => decide +kernel)
    (case vG => k_is)
    (case eG => decide +kernel)
    (case vF => k_is)
    (case eF => decide +kernel)
    (case vN => k_is)
    (case eN => decide +kernel)
    (case vM => k_is)
    (case eM => decide +kernel)
    (case vP => k_is)
    (case eP => decide +kernel)
    (case vMa => k_is)
    (case lMa => k_is)
    (case eMa => decide +kernel)
    (case vPl => k_is)
    (case lPl => k_is)
    (case ePl => decide +kernel)
    (case vLa => k_is)
    (case lLa => k_is)
    (case eLa => decide +kernel)
    (case sE => k_is)
    (case iE => k_is)
    (case tE => k_is)
    (case rd => k_is)
    (case gE => k_is)
    (case fE => k_is)
    (case spO => k_is)
    (case tkO => k_is)
    (case kE1 => k_is)
    (case xLE1 => k_is)
    (case xRE1 => decide +kernel)
    (case saE1 => k_is)
    (case niE1 => k_is)
    (case tIE1 => k_is)
    (case sBE1 => k_is)
    (case tE1 => k_is)
    (case sEE1 => k_is)
    (case gE1 => k_is)
    (case ggE1 => k_is)
    (case hdE1 => k_is)
    (case clE1 => k_is)
    (case mrE1 => k_is)
    (case kE2 => k_is)
    (case xLE2 => k_is)
    (case xRE2 => decide +kernel)
    (case saE2 => k_is)
    (case niE2 => k_is)
    (case tIE2 => k_is)
    (case sBE2 => k_is)
    (case tE2 => k_is)
    (case sEE2 => k_is)
    (case gE2 => k_is)
    (case ggE2 => k_is)
    (case hdE2 => k_is)
    (case clE2 => k_is)
    (case mrE2 => k_is)
    (case kE3 => k_is)
    (case xE3 => k_exc)
    (case sBE3 => k_is)
    (case tE3 => k_is)
    (case sEE3 => k_is)
    (case gE3 => k_is)
    (case ggE3 => k_is)
    (case hdE3 => k_is)
    (case clE3 => k_is)
    (case mrE3 => k_is)
    (case kE4 => k_is)
    (case xE4 => k_exc)
    (case sBE4 => k_is)
    (case tE4 => k_is)
    (case sEE4 => k_is)
    (case gE4 => k_is)
    (case ggE4 => k_is)
    (case hdE4 => k_is)
    (case clE4 => k_is)
    (case mrE4 => k_is)
    (case hTT2 => exact hT8 _ (List.mem_cons_self ..))
    (case hTT1 => exact hT8 _ (List.mem_cons_of_mem _ (List.mem_cons_self ..)))
    (case hdrT1 => kernel_rfl)
    (case npT1 => kernel_rfl)
    (case hdrT2 => kernel_rfl)
    (case npT2 => kernel_rfl)
    (case hne => decide +kernel)

