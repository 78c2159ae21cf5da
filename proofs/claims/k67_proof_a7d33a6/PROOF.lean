import PyProof.Rows.All
import Wide.All
import OpenK.AllK
import Wide.FinOn
import HandS.ForMost
import HandS.Strs
import HandS.Zip
import HandS.IsInst
import HandS.WordsExc
import HandS.Style
import HandS.Lambda
import KE.KExcIs
import HandS.ExcIs
import PySem.Challenge.RW_labelclocks_k67_heights_exactly_where_pr
import HandS.DeepEq
import HandS.Walk
import HandS.TupAny
import HandS.More
import HandS.Deep
import HandS.Conv
import HandS.DictComp
import HandS.TupMul
import PyProof.ReprReads
import PyProof.FitsInt
import HandS.EndTab
import HandS.CallLocal
import HandS.Words
import PyProof.ReprRoads
import PyProof.CallFns
import KE.KNestM
set_option Elab.async false
set_option linter.all false
set_option pp.maxSteps 700
set_option maxRecDepth 100000
set_option maxHeartbeats 2000000
namespace K67
open PySem PySem.Spec PyProof.Rows L2
open TL (tl)
def top (i : Nat) : Stmt := PySem.Challenge.pw_labelclocks_k67_heights_exactly_where_pr.main.body.getD i (.Pass ⟨0, 0, 0, 0⟩)
theorem ifT {c : Bool} {A B : Prop} (hc : c = true) (h : A) : if c = true then A else B := by
  rw [if_pos hc]
  exact h
theorem ifF {c : Bool} {A B : Prop} (hc : c = false) (h : B) : if c = true then A else B := by
  rw [hc, if_neg Bool.false_ne_true]
  exact h
theorem while_m {c : TT} {tb : TS} {D : Ends} {σ : L2.St} {H : Hp} (Pv : Nat → L2.St → Hp → Prop) (m : Nat) (h0 : Pv m σ H)
    (hs : ∀ n σ H, Pv n σ H → c σ H fun b H1 => if b = true then ∃ N : L2.St → Hp → Prop, (∀ σ' H', N σ' H' → ∃ m', m' < n ∧ Pv m' σ' H') ∧ tb { D with nx := N, ct := N, bk := D.nx } σ H1 else D.nx σ H1) : tWhile c tb D σ H :=
  ⟨Pv, ⟨m, h0⟩, hs⟩
theorem same_new {H : Hp} {p : Addr} {o : HO} (h : H p = none) : Same H (upd H p o) := fun b u e => by
  rw [upd_ne (ne_of_none e h)]
  exact e
theorem paired_app {α β : Type} {F : α → β → Prop} : ∀ {a : List α} {b : List β} {a' : List α} {b' : List β}, Paired F a b → Paired F a' b' → Paired F (a ++ a') (b ++ b')
  | _, _, _, _, .nil, q => q
  | _, _, _, _, .cons r t, q => .cons r (paired_app t q)
theorem paired_len {α β : Type} {F : α → β → Prop} {a : List α} {b : List β} (p : Paired F a b) : a.length = b.length := Paired.length p
section
variable {X : Cx} {o e : Expr} {to te : TE} {apos cpos : Pos}
theorem qApp (ho : PE X o to) (he : PE X e te) (hbase : attributeBase o "append" X.env (eval o X.env) = eval o X.env := by rfl)
    (hfew : ((backTo cpos (starEach (e :: []) X.env)).all (fun x => !x.1) && (backToKw cpos (keywordEach [] X.env)).all (fun x => x.1.isSome)
      && decide ((e :: ([] : List Expr)).length + ([] : List Keyword).length + (if ([] : List Keyword).isEmpty then 0 else 1) < 30)) = true := by rfl)
    (hline : (apos.endLine == cpos.line) = true := by rfl) (hs : starEach (e :: []) X.env = (false, eval e X.env) :: starEach [] X.env := by rfl) (hplain : (backTo cpos (starEach [] X.env)).any (·.1) = false := by rfl) :
    PE X (.Call (.Attribute o "append" apos) [e] [] cpos) (tBM X.K "list" rAppend to (tCons te tNil)) :=
  pe_bm PySem.F.plainAttrs_list PySem.F.slot_list_append PySem.F.type_list_append mt_append ho (pa_cons he pa_nil hs) hbase hfew hline hs hplain
end
theorem while_q {c : TT} {tb : TS} {D : Ends} {σ : L2.St} {H : Hp} (Pv : Nat → L2.St → Hp → Prop) (m : Nat) (Post : L2.St → Hp → Prop) (h0 : Pv m σ H)
    (hs : ∀ X : L2.St → Hp → Prop, (∀ σ H, Post σ H → X σ H) → ∀ n σ H, Pv n σ H → c σ H fun b H1 => if b = true then ∃ N : L2.St → Hp → Prop, (∀ σ' H', N σ' H' → ∃ m', m' < n ∧ Pv m' σ' H') ∧ tb { D with nx := N, ct := N, bk := D.nx } σ H1 else X σ H1)
    (hp : ∀ σ H, Post σ H → D.nx σ H) : tWhile c tb D σ H :=
  ⟨Pv, ⟨m, h0⟩, hs D.nx hp⟩
abbrev sBeg : Stmt := top 33
abbrev sMix : Stmt := top 34
abbrev sDrw : Stmt := top 35
abbrev sPck : Stmt := top 36
/-! ### the state of the draws -/
theorem k12 : ¬ (Sum.inr ("great" : Str) : Key) = Sum.inr ("cells" : Str) := by decide +kernel
theorem k13 : ¬ (Sum.inr ("great" : Str) : Key) = Sum.inr ("rest" : Str) := by decide +kernel
theorem k14 : ¬ (Sum.inr ("great" : Str) : Key) = Sum.inr ("turn" : Str) := by decide +kernel
theorem k23 : ¬ (Sum.inr ("cells" : Str) : Key) = Sum.inr ("rest" : Str) := by decide +kernel
theorem k24 : ¬ (Sum.inr ("cells" : Str) : Key) = Sum.inr ("turn" : Str) := by decide +kernel
theorem k34 : ¬ (Sum.inr ("rest" : Str) : Key) = Sum.inr ("turn" : Str) := by decide +kernel
def StKV (g c : Addr) (r t : Int) : List (Key × V) := [(Sum.inr ("great" : Str), V.ref g), (Sum.inr ("cells" : Str), V.ref c), (Sum.inr ("rest" : Str), V.int r), (Sum.inr ("turn" : Str), V.int t)]
section
variable {g c d : Addr} {r t : Int} {H : Hp}
theorem v_great : valV (StKV g c r t) (Sum.inr ("great" : Str)) = some (.ref g) := valV_pos rfl
theorem v_cells : valV (StKV g c r t) (Sum.inr ("cells" : Str)) = some (.ref c) := (valV_neg k12).trans (valV_pos rfl)
theorem v_rest : valV (StKV g c r t) (Sum.inr ("rest" : Str)) = some (.int r) := (valV_neg k13).trans ((valV_neg k23).trans (valV_pos rfl))
theorem v_turn : valV (StKV g c r t) (Sum.inr ("turn" : Str)) = some (.int t) := (valV_neg k14).trans ((valV_neg k24).trans ((valV_neg k34).trans (valV_pos rfl)))
theorem p_rest (x : Int) : putK (StKV g c r t) (Sum.inr ("rest" : Str)) (.int x) = StKV g c x t := by
  unfold putK
  rw [valV_any, v_rest, if_pos (show (some (V.int r)).isSome = true from rfl)]
  unfold StKV
  simp only [List.map_cons, List.map_nil, if_neg k13, if_neg k23, if_pos, if_neg (Ne.symm k34 : ¬ (Sum.inr ("turn" : Str) : Key) = Sum.inr ("rest" : Str))]
theorem p_turn (x : Int) : putK (StKV g c r t) (Sum.inr ("turn" : Str)) (.int x) = StKV g c r x := by
  unfold putK
  rw [valV_any, v_turn, if_pos (show (some (V.int t)).isSome = true from rfl)]
  unfold StKV
  simp only [List.map_cons, List.map_nil, if_neg k14, if_neg k24, if_neg k34, if_pos]
theorem g_great (h : H d = some (.dK (StKV g c r t))) : DGet H d (.str ("great" : Str)) (some (.ref g)) := by
  have e := DGet.k (k := Sum.inr ("great" : Str)) h
  rw [v_great] at e
  exact e
theorem g_cells (h : H d = some (.dK (StKV g c r t))) : DGet H d (.str ("cells" : Str)) (some (.ref c)) := by
  have e := DGet.k (k := Sum.inr ("cells" : Str)) h
  rw [v_cells] at e
  exact e
theorem g_rest (h : H d = some (.dK (StKV g c r t))) : DGet H d (.str ("rest" : Str)) (some (.int r)) := by
  have e := DGet.k (k := Sum.inr ("rest" : Str)) h
  rw [v_rest] at e
  exact e
theorem g_turn (h : H d = some (.dK (StKV g c r t))) : DGet H d (.str ("turn" : Str)) (some (.int t)) := by
  have e := DGet.k (k := Sum.inr ("turn" : Str)) h
  rw [v_turn] at e
  exact e
theorem s_rest (h : H d = some (.dK (StKV g c r t))) (x : Int) : DPut H d (.str ("rest" : Str)) (.int x) (upd H d (.dK (StKV g c x t))) := by
  have e := DPut.k (k := Sum.inr ("rest" : Str)) (v := .int x) h (by rw [sizeLine_eq]; show 4 < _; omega)
  rw [p_rest] at e
  exact e
theorem s_turn (h : H d = some (.dK (StKV g c r t))) (x : Int) : DPut H d (.str ("turn" : Str)) (.int x) (upd H d (.dK (StKV g c r x))) := by
  have e := DPut.k (k := Sum.inr ("turn" : Str)) (v := .int x) h (by rw [sizeLine_eq]; show 4 < _; omega)
  rw [p_turn] at e
  exact e
end
/-- the state at d: great at g, cells at c; at most n turns were made -/
structure StX (H : Hp) (d g c : Addr) (n : Nat) (r t : Int) (gs cs : List Int) : Prop where
  dk : H d = some (.dK (StKV g c r t))
  gl : H g = some (.lst (gs.map V.int))
  cl : H c = some (.lst (cs.map V.int))
  gc : g ≠ c
  r0 : 0 ≤ r
  g0 : ∀ x ∈ gs, 0 ≤ x
  t0 : 0 ≤ t
  tn : t ≤ n
  gn : gs.length ≤ 63
  cn : cs.length ≤ 63
def StA (H : Hp) (d g c : Addr) (n : Nat) : Prop := ∃ r t gs cs, StX H d g c n r t gs cs
theorem StX.dg {H : Hp} {d g c : Addr} {n : Nat} {r t : Int} {gs cs : List Int} (S : StX H d g c n r t gs cs) : d ≠ g := ne_of S.dk S.gl (by intro z; cases z)
theorem StX.dc {H : Hp} {d g c : Addr} {n : Nat} {r t : Int} {gs cs : List Int} (S : StX H d g c n r t gs cs) : d ≠ c := ne_of S.dk S.cl (by intro z; cases z)
theorem StX.keep {H H' : Hp} {d g c : Addr} {n : Nat} {r t : Int} {gs cs : List Int} (S : StX H d g c n r t gs cs) (k : Same H H') : StX H' d g c n r t gs cs :=
  ⟨k _ _ S.dk, k _ _ S.gl, k _ _ S.cl, S.gc, S.r0, S.g0, S.t0, S.tn, S.gn, S.cn⟩
theorem StA.keep {H H' : Hp} {d g c : Addr} {n : Nat} (S : StA H d g c n) (k : Same H H') : StA H' d g c n := by
  obtain ⟨r, t, gs, cs, S⟩ := S
  exact ⟨r, t, gs, cs, S.keep k⟩
theorem StA.mono {H : Hp} {d g c : Addr} {n m : Nat} (S : StA H d g c n) (h : n ≤ m) : StA H d g c m := by
  obtain ⟨r, t, gs, cs, S⟩ := S
  exact ⟨r, t, gs, cs, S.dk, S.gl, S.cl, S.gc, S.r0, S.g0, S.t0, by have := S.tn; omega, S.gn, S.cn⟩
/-- all but the state's dict and great stay -/
def Kp (d g : Addr) (H H' : Hp) : Prop := ∀ b o, H b = some o → b ≠ d → b ≠ g → H' b = some o
theorem Kp.of {d g : Addr} {H H' : Hp} (s : Same H H') : Kp d g H H' := fun b o e _ _ => s b o e
theorem Kp.refl {d g : Addr} (H : Hp) : Kp d g H H := fun _ _ e _ _ => e
theorem Kp.trans {d g : Addr} {H H1 H2 : Hp} (a : Kp d g H H1) (b : Kp d g H1 H2) : Kp d g H H2 := fun c o e h1 h2 => b c o (a c o e h1 h2) h1 h2
theorem Kp.put {d g : Addr} {H : Hp} {o : HO} : Kp d g H (upd H d o) := fun b u e h1 _ => by
  rw [upd_ne h1]
  exact e
theorem Kp.putg {d g : Addr} {H : Hp} {o : HO} : Kp d g H (upd H g o) := fun b u e _ h2 => by
  rw [upd_ne h2]
  exact e
theorem StX.rest {H : Hp} {d g c : Addr} {n : Nat} {r t : Int} {gs cs : List Int} (S : StX H d g c n r t gs cs) {x : Int} (hx : 0 ≤ x) : StX (upd H d (.dK (StKV g c x t))) d g c n x t gs cs :=
  ⟨upd_same, by rw [upd_ne S.dg.symm]; exact S.gl, by rw [upd_ne S.dc.symm]; exact S.cl, S.gc, hx, S.g0, S.t0, S.tn, S.gn, S.cn⟩
theorem StX.turn {H : Hp} {d g c : Addr} {n : Nat} {r t : Int} {gs cs : List Int} (S : StX H d g c n r t gs cs) : StX (upd H d (.dK (StKV g c r (t + 1)))) d g c (n + 1) r (t + 1) gs cs :=
  ⟨upd_same, by rw [upd_ne S.dg.symm]; exact S.gl, by rw [upd_ne S.dc.symm]; exact S.cl, S.gc, S.r0, S.g0, by have := S.t0; omega, by have := S.tn; omega, S.gn, S.cn⟩
theorem dpInts {K : PySem.W.Frag} {H : Hp} : ∀ gs : List Int, DpAll K H (gs.map V.int) (gs.map PyData.int)
  | [] => .nil
  | x :: r => .cons (.int x) (dpInts r)
theorem layInts : ∀ gs : List Int, PyData.canLayAll0 (gs.map PyData.int) = true
  | [] => rfl
  | x :: r => by
    show (true && PyData.canLayAll0 (r.map PyData.int)) = true
    rw [layInts r]
    rfl
theorem depInts : ∀ gs : List Int, PyData.depthAll (gs.map PyData.int) = 0
  | [] => rfl
  | x :: r => by
    show max 0 (PyData.depthAll (r.map PyData.int)) = 0
    rw [depInts r]
    rfl
theorem shInts (gs : List Int) : SeqAt.shaped (.list (gs.map PyData.int)) = true := by
  unfold SeqAt.shaped
  show (PyData.canLayAll0 (gs.map PyData.int) && decide (PyData.depthAll (gs.map PyData.int) + 1 ≤ 64)) = true
  rw [layInts, depInts]
  rfl
def spMix : Sp := fun vs H Q _ => ∃ (d g c : Addr) (n : Nat), vs = [.ref d] ∧ StA H d g c n ∧ n ≤ 1000000000 ∧ ∀ (v : Int) (H' : Hp), 0 ≤ v → StA H' d g c (n + 1) → Kp d g H H' → Q (.int v) H'
def spDrw : Sp := fun vs H Q _ => ∃ (d g c : Addr) (n : Nat) (room : Int), vs = [.ref d, .int room] ∧ StA H d g c n ∧ n ≤ 1000000000 ∧ 0 < room ∧ room < 1073741824 ∧
  ∀ (v : Int) (H' : Hp), 0 ≤ v → v < room → StA H' d g c (n + 1) → Kp d g H H' → Q (.int v) H'
def spPck : Sp := fun vs H Q _ => ∃ (d g c a : Addr) (n : Nat) (xs : List V), vs = [.ref d, .ref a] ∧ StA H d g c n ∧ n ≤ 1000000000 ∧ H a = some (.lst xs) ∧ a ≠ g ∧ xs ≠ [] ∧ xs.length ≤ 1000000 ∧
  ∀ (v : V) (H' : Hp), v ∈ xs → StA H' d g c (n + 1) → Kp d g H H' → Q v H'
structure MgS (K : PySem.W.Frag) (mg : Str → Option Value) (fM fD : Addr) : Prop where
  int : mg "int" = none
  len : mg "len" = none
  mx : mg "_law_mixed" = some (.ref fM)
  kmx : PySem.W.keepIn K (.ref fM) = true
  dr : mg "_law_draw" = some (.ref fD)
  kdr : PySem.W.keepIn K (.ref fD) = true
section
variable {P : Program} {w : World} {K : PySem.W.Frag} {mg : Str → Option Value} {base : Heap}
theorem scMix : FnScope ["state", "turn", "found", "prime", "blend", "cell"] ["state"] (defScope sMix) := ⟨rfl, rfl, rfl, by decide +kernel, rfl, by decide +kernel, by decide +kernel⟩
theorem ok_mix {f fM fD : Addr} {fd : FuncData} (F : Fun K "_law_mixed" "_law_mixed" sMix f fd) (T : MgS K mg fM fD) : FnOk P w K mg base CX0 1 f fd ["state"] spMix := by
  refine F.ok scMix (fun vs H Q E h => ?_) (fun cdv A outer s H vs Q E hr h => ?_)
  · obtain ⟨d, g, c, n, rfl, _⟩ := h
    rfl
  · obtain ⟨d, g, c, n, rfl, ⟨r, t, gs, cs, S⟩, hn, k⟩ := h
    have hu := hu_of hr
    refine ⟨_, pss_cons (ps_par (i := 1) (j := 2) (by rfl) scMix.nd rfl rfl (by decide) rfl rfl (pa_cons (pe_op op_add (pe_dget hu (pv 0) pe_str (fun _ _ => rfl)) pe_int) (pa_cons pe_int pa_nil)) (by rfl))
      (pss_cons (ps_dput hu (pv 0) pe_str (pv 1) rfl)
      (pss_cons (ps_for PassesOwn.never rfl (pi_list (pe_lst (pa_cons pe_int (pa_cons pe_int (pa_cons pe_int (pa_cons pe_int pa_nil)))))) (pg_name (i := 3) scMix.nd rfl (Or.inl rfl))
        (pss_cons (ps_set (i := 4) scMix.nd rfl (Or.inl rfl) (pe_op op_add (pe_op op_mul pe_int (pv 1)) (pe_op op_fdivN (pv 3) pe_int)))
        (pss_cons (ps_for PassesOwn.never rfl (pi_list (pe_dget hu (pv 0) pe_str (fun _ _ => rfl))) (pg_name (i := 5) scMix.nd rfl (Or.inl rfl))
          (pss_one (ps_set (i := 4) scMix.nd rfl (Or.inl rfl) (pe_op op_mod (pe_callTy call_int1 (by rfl) T.int (by decide +kernel) (pa_cons (pe_op op_add (pe_op op_add (pe_op op_mul (pv 4) pe_int) (pv 5)) (pv 1)) pa_nil)) (pv 3)))))
        (pss_one (ps_set (i := 2) scMix.nd rfl (Or.inl rfl) (pe_op op_add (pe_op op_mul (pv 2) pe_int) (pe_op op_mod (pe_callTy call_int1 (by rfl) T.int (by decide +kernel) (pa_cons (pe_op op_pow (pv 4) pe_int) pa_nil)) (pv 3))))))))
      (pss_one (ps_ret (pv 2))))), ?_⟩
    refine ⟨_, rfl, d, _, rfl, g_turn S.dk, _, _, rfl, rfl, ⟨_, _, rfl, ?_⟩⟩
    refine ⟨_, rfl, _, rfl, d, _, rfl, s_turn S.dk _, ?_⟩
    have S1 := S.turn
    have t0 := S.t0
    have tn := S.tn
    refine ⟨(by show 4 ≤ sizeLine; decide), fun l hl => ?_⟩
    have S2 := S1.keep (same_new (o := .lst [V.int 2147483629, V.int 2147483647, V.int 2147483563, V.int 2147483587]) hl)
    have kp : Kp d g H (upd (upd H d (.dK (StKV g c r (t + 1)))) l (.lst [V.int 2147483629, V.int 2147483647, V.int 2147483563, V.int 2147483587])) := Kp.put.trans (Kp.of (same_new hl))
    generalize hH1 : upd (upd H d (.dK (StKV g c r (t + 1)))) l (.lst [V.int 2147483629, V.int 2147483647, V.int 2147483563, V.int 2147483587]) = H1 at S2 kp
    have hl1 : H1 l = some (.lst [V.int 2147483629, V.int 2147483647, V.int 2147483563, V.int 2147483587]) := by rw [← hH1, upd_same]
    refine ⟨l, rfl, ⟨_, SqL.of (by first | exact upd_same | exact hl1)⟩, for_list (K := K) (a := l) (xs := [V.int 2147483629, V.int 2147483647, V.int 2147483563, V.int 2147483587])
      (fun i σ H' => ∃ (fd : Int) (pv bv cv : Option V), σ = [some (.ref d), some (.int (t + 1)), some (.int fd), pv, bv, cv] ∧ 0 ≤ fd ∧ H' = H1) ⟨0, none, none, none, rfl, Int.le_refl _, by first | rfl | exact hH1⟩ (fun i σ H' _ ⟨_, _, _, _, _, _, e⟩ => by rw [e]; exact SqL.of hl1) ?_ ?_⟩
    · rintro i x σ H' hi ⟨fd, pv, bv, cv, rfl, hfd, rfl⟩
      have hm := List.mem_of_getElem? hi
      obtain ⟨pr, rfl, hp0, hp1⟩ : ∃ pr : Int, x = .int pr ∧ 0 < pr ∧ pr < 2147483648 := by
        simp only [List.mem_cons, List.not_mem_nil, or_false] at hm
        rcases hm with rfl | rfl | rfl | rfl
        · exact ⟨_, rfl, by decide, by decide⟩
        · exact ⟨_, rfl, by decide, by decide⟩
        · exact ⟨_, rfl, by decide, by decide⟩
        · exact ⟨_, rfl, by decide, by decide⟩
      have hq : pr.fdiv 41 = pr / 41 := Int.fdiv_eq_ediv_of_nonneg _ (by decide)
      refine ⟨_, rfl, _, _, rfl, rfl, .inl ⟨by decide, by decide⟩, _, rfl, _, _, rfl, rfl, ⟨by decide, by decide⟩, _, _, rfl, rfl, ?_⟩
      refine ⟨_, rfl, d, _, rfl, g_cells S2.dk, c, rfl, ⟨_, SqL.of S2.cl⟩, for_list (K := K) (a := c) (xs := cs.map V.int)
        (fun i σ H'' => ∃ (bl : Int) (cv : Option V), σ = [some (.ref d), some (.int (t + 1)), some (.int fd), some (.int pr), some (.int bl), cv] ∧ -9000000000000000000 < bl ∧ bl < 9000000000000000000 ∧ H'' = H') ⟨_, cv, rfl, by omega, by omega, rfl⟩ (fun i σ H'' _ ⟨_, _, _, _, _, e⟩ => by rw [e]; exact SqL.of S2.cl) ?_ ?_⟩
      · rintro j y σ H'' hj ⟨bl, cv2, rfl, hb1, hb2, rfl⟩
        rw [List.getElem?_map] at hj
        obtain ⟨z, _, rfl⟩ := Option.map_eq_some_iff.mp hj
        refine ⟨_, rfl, _, _, rfl, rfl, .inr ⟨by decide, by decide⟩, _, rfl, _, _, rfl, rfl, _, rfl, _, _, rfl, rfl, .inl ⟨_, rfl, _, rfl, _, _, rfl, rfl, hp0, ?_⟩⟩
        refine ⟨_, _, rfl, ?_, ?_, rfl⟩
        · have := Int.emod_nonneg (bl * 48271 + z + (t + 1)) (Int.ne_of_gt hp0)
          omega
        · have := Int.emod_lt_of_pos (bl * 48271 + z + (t + 1)) hp0
          omega
      · rintro σ H'' ⟨bl, cv2, rfl, hb1, hb2, rfl⟩
        refine ⟨_, rfl, _, _, rfl, rfl, .inr ⟨by decide, by decide⟩, _, rfl, _, _, rfl, rfl, ⟨by decide, by decide, by omega⟩, .inl ⟨_, rfl, _, rfl, _, _, rfl, rfl, hp0, _, _, rfl, rfl, ?_⟩⟩
        refine ⟨_, _, _, _, rfl, ?_, rfl⟩
        have := Int.emod_nonneg (bl ^ (5 : Int).toNat) (Int.ne_of_gt hp0)
        omega
    · rintro σ H' ⟨fd, pv, bv, cv, rfl, hfd, rfl⟩
      refine ⟨_, rfl, k fd H' hfd ⟨_, _, _, _, S2⟩ kp⟩
end
/-- a statement, a word of one's own, the rest -/
def tMid (t u : TS) : TS := fun D σ H => ∃ M : L2.St → Hp → Prop, t { D with nx := M } σ H ∧ ∀ σ1 H1, M σ1 H1 → u D σ1 H1
section
variable {X : Cx} {o e : Expr} {to te : TE} {apos cpos : Pos}
theorem pss_mid {st : Stmt} {rest : List Stmt} {t u : TS} (h1 : PS X st t) (h2 : PSs X rest u) : PSs X (st :: rest) (tMid t u) := by
  constructor
  intro pins s σ H D I h
  obtain ⟨M, ha, hb⟩ := h
  refine wpAny_execs_cons (thn (h1.run pins s σ H { D with nx := M } I ha) ?_)
  intro f s1 q
  match f, q with
  | .next, ⟨σ1, H1, I1, q⟩ => exact h2.run pins s1 σ1 H1 D I1 (hb σ1 H1 q)
  | .ret v, q => exact q
  | .brk, q => exact q
  | .cont, q => exact q
theorem qPopAt (ho : PE X o to) (he : PE X e te) (hbase : attributeBase o "pop" X.env (eval o X.env) = eval o X.env := by rfl)
    (hfew : ((backTo cpos (starEach (e :: []) X.env)).all (fun x => !x.1) && (backToKw cpos (keywordEach [] X.env)).all (fun x => x.1.isSome)
      && decide ((e :: ([] : List Expr)).length + ([] : List Keyword).length + (if ([] : List Keyword).isEmpty then 0 else 1) < 30)) = true := by rfl)
    (hline : (apos.endLine == cpos.line) = true := by rfl) (hs : starEach (e :: []) X.env = (false, eval e X.env) :: starEach [] X.env := by rfl) (hplain : (backTo cpos (starEach [] X.env)).any (·.1) = false := by rfl) :
    PE X (.Call (.Attribute o "pop" apos) [e] [] cpos) (tBM X.K "list" rPopAt to (tCons te tNil)) :=
  pe_bm PySem.F.plainAttrs_list PySem.F.slot_list_pop PySem.F.type_list_pop mt_popAt ho (pa_cons he pa_nil hs) hbase hfew hline hs hplain
end
theorem StX.pop {H : Hp} {d g c : Addr} {n : Nat} {r t x : Int} {gs cs : List Int} (S : StX H d g c n r t (x :: gs) cs) : 0 ≤ x ∧ StX (upd (upd H g (.lst (gs.map V.int))) d (.dK (StKV g c x t))) d g c n x t gs cs := by
  have hx := S.g0 x (List.mem_cons_self ..)
  refine ⟨hx, upd_same, by rw [upd_ne S.dg.symm, upd_same], by rw [upd_ne S.dc.symm, upd_ne S.gc.symm]; exact S.cl, S.gc, hx, fun y hy => S.g0 y (List.mem_cons_of_mem _ hy), S.t0, S.tn, by have := S.gn; simp only [List.length_cons] at this; omega, S.cn⟩
section
variable {P : Program} {w : World} {K : PySem.W.Frag} {mg : Str → Option Value} {base : Heap}
theorem scDrw : FnScope ["state", "room", "found"] ["state", "room"] (defScope sDrw) := ⟨rfl, rfl, rfl, by decide +kernel, rfl, by decide +kernel, by decide +kernel⟩
theorem ok_drw {f fM fD : Addr} {fd fdM : FuncData} (F : Fun K "_law_draw" "_law_draw" sDrw f fd) (T : MgS K mg fM fD) (FM : Fun K "_law_mixed" "_law_mixed" sMix fM fdM) (bM : L2.Binds K fdM ["state"] []) : FnOk P w K mg base CX0 2 f fd ["state", "room"] spDrw := by
  have GM : FnOk P w K mg base CX0 1 fM fdM ["state"] spMix := ok_mix FM T
  refine F.ok scDrw (fun vs H Q E h => ?_) (fun cdv A outer s H vs Q E hr h => ?_)
  · obtain ⟨d, g, c, n, room, rfl, _⟩ := h
    rfl
  · obtain ⟨d, g, c, n, room, rfl, ⟨r, t, gs, cs, S⟩, hn, hr0, hr1, k⟩ := h
    have hu := hu_of hr
    refine ⟨_, pss_mid (ps_if (pt_cmpR op_eq (pe_dget hu (pv 0) pe_str (fun _ _ => rfl)) pe_int (nomark _))
        (pss_one (ps_dput hu (pv 0) pe_str (pe_ifExp (pt_cmpR (op_neD hr.units) (pe_dget hu (pv 0) pe_str (fun _ _ => rfl)) (pe_lst pa_nil) (nomark _))
          (qPopAt (pe_dget hu (pv 0) pe_str (fun _ _ => rfl)) pe_int) (pe_call GM hr (by rfl) T.mx T.kmx bM .nil pass0 (pa_cons (pv 0) pa_nil))) rfl)) pss_nil)
      (pss_cons (ps_set (i := 2) scDrw.nd rfl (Or.inl rfl) (pe_op op_mod (pe_callTy call_int1 (by rfl) T.int (by decide +kernel) (pa_cons (pe_dget hu (pv 0) pe_str (fun _ _ => rfl)) pa_nil)) (pv 1)))
      (pss_cons (ps_dput hu (pv 0) pe_str (pe_op op_fdivN (pe_dget hu (pv 0) pe_str (fun _ _ => rfl)) (pv 1)) rfl)
      (pss_one (ps_ret (pv 2))))), ?_⟩
    refine ⟨fun σ1 H1 => σ1 = [some (.ref d), some (.int room), none] ∧ StA H1 d g c (n + 1) ∧ Kp d g H H1, ?_, ?_⟩
    · refine ⟨_, rfl, d, _, rfl, g_rest S.dk, rfl, _, rfl, ?_⟩
      by_cases h0 : r = 0
      · refine ifT (decide_eq_true (by rw [h0])) ?_
        refine ⟨_, rfl, d, _, rfl, g_great S.dk, Nat.zero_le _, fun l hl => ?_⟩
        have S1 := S.keep (same_new (o := .lst []) hl)
        refine ⟨_, .list [], .lst (SqL.of S1.gl) (dpInts gs), .lst (SqL.of upd_same) .nil, shInts gs, by decide, _, rfl, ?_⟩
        cases gs with
        | nil =>
          refine ifF rfl ?_
          refine ⟨_, rfl, d, g, c, n, rfl, ⟨r, t, [], cs, S1⟩, hn, fun v H' hv S2 kp => ?_⟩
          obtain ⟨r2, t2, gs2, cs2, S2⟩ := S2
          refine ⟨_, rfl, d, _, rfl, s_rest S2.dk v, rfl, ⟨v, t2, gs2, cs2, S2.rest hv⟩, (Kp.of (same_new hl)).trans (kp.trans Kp.put)⟩
        | cons x gs =>
          refine ifT rfl ?_
          obtain ⟨hx, S2⟩ := S1.pop
          refine ⟨_, rfl, d, _, rfl, g_great S1.dk, .inl ⟨rfl, _, SqL.of S1.gl⟩, g, _, 0, 0, .int x, rfl, rfl, S1.gl, (by decide), (by decide), (by first | rfl | (unfold seqIndex?; simp)), rfl, ?_⟩
          refine ⟨_, rfl, d, _, rfl, s_rest (by rw [upd_ne S1.dg]; exact S1.dk) x, rfl, ?_, (Kp.of (same_new hl)).trans (Kp.putg.trans Kp.put)⟩
          exact StA.mono ⟨x, t, gs, cs, S2⟩ (Nat.le_succ _)
      · refine ifF (decide_eq_false (fun h => h0 (by injection h))) ?_
        exact ⟨rfl, StA.mono ⟨r, t, gs, cs, S⟩ (Nat.le_succ _), Kp.refl _⟩
    · rintro σ1 H1 ⟨rfl, ⟨r, t, gs, cs, S⟩, kp⟩
      refine ⟨_, rfl, d, _, rfl, g_rest S.dk, .inl ⟨_, rfl, _, rfl, _, _, rfl, rfl, hr0, ?_⟩⟩
      refine ⟨_, rfl, d, _, rfl, g_rest S.dk, _, rfl, _, _, rfl, rfl, ⟨by omega, by omega⟩, _, rfl, d, _, rfl, s_rest S.dk _, ?_⟩
      have hq : 0 ≤ r.fdiv room := by
        rw [Int.fdiv_eq_ediv_of_nonneg _ (by omega)]
        exact Int.ediv_nonneg S.r0 (by omega)
      exact ⟨_, rfl, k _ _ (Int.emod_nonneg _ (by omega)) (Int.emod_lt_of_pos _ hr0) ⟨_, _, _, _, S.rest hq⟩ (kp.trans Kp.put)⟩
end
theorem merge_st (g c : Addr) : mergeK [] (StKV g c 0 0) = StKV g c 0 0 := by
  have e1 : putK [] (Sum.inr ("great" : Str) : Key) (V.ref g) = [(Sum.inr ("great" : Str), V.ref g)] := by
    rw [putK_new _ valV_nil]
    rfl
  have e2 : putK [((Sum.inr ("great" : Str) : Key), V.ref g)] (Sum.inr ("cells" : Str)) (V.ref c) = [(Sum.inr ("great" : Str), V.ref g), (Sum.inr ("cells" : Str), V.ref c)] := by
    rw [putK_new _ ((valV_neg k12).trans valV_nil)]
    rfl
  have e3 : putK [((Sum.inr ("great" : Str) : Key), V.ref g), (Sum.inr ("cells" : Str), V.ref c)] (Sum.inr ("rest" : Str)) (V.int 0) = [(Sum.inr ("great" : Str), V.ref g), (Sum.inr ("cells" : Str), V.ref c), (Sum.inr ("rest" : Str), V.int 0)] := by
    rw [putK_new _ ((valV_neg k13).trans ((valV_neg k23).trans valV_nil))]
    rfl
  have e4 : putK [((Sum.inr ("great" : Str) : Key), V.ref g), (Sum.inr ("cells" : Str), V.ref c), (Sum.inr ("rest" : Str), V.int 0)] (Sum.inr ("turn" : Str)) (V.int 0) = StKV g c 0 0 := by
    rw [putK_new _ ((valV_neg k14).trans ((valV_neg k24).trans ((valV_neg k34).trans valV_nil)))]
    rfl
  show putK (putK (putK (putK [] (Sum.inr ("great" : Str) : Key) (V.ref g)) (Sum.inr ("cells" : Str)) (V.ref c)) (Sum.inr ("rest" : Str)) (V.int 0)) (Sum.inr ("turn" : Str)) (V.int 0) = _
  rw [e1, e2, e3, e4]
def spBeg (K : PySem.W.Frag) : Sp := fun vs H Q _ => ∃ (a : Addr) (ns : List Int), vs = [.ref a] ∧ SqL K H a (ns.map V.int) ∧ ns.length ≤ 63 ∧
  ∀ (d g c : Addr) (H' : Hp), StA H' d g c 0 → Same H H' → H d = none → H g = none → Q (.ref d) H'
section
variable {P : Program} {w : World} {K : PySem.W.Frag} {mg : Str → Option Value} {base : Heap}
theorem scPck : FnScope ["state", "some"] ["state", "some"] (defScope sPck) := ⟨rfl, rfl, rfl, by decide +kernel, rfl, by decide +kernel, by decide +kernel⟩
theorem ok_pck {f fM fD : Addr} {fd fdM fdD : FuncData} (F : Fun K "_law_pick" "_law_pick" sPck f fd) (T : MgS K mg fM fD) (FM : Fun K "_law_mixed" "_law_mixed" sMix fM fdM) (bM : L2.Binds K fdM ["state"] [])
    (FD : Fun K "_law_draw" "_law_draw" sDrw fD fdD) (bD : L2.Binds K fdD ["state", "room"] []) : FnOk P w K mg base CX0 3 f fd ["state", "some"] spPck := by
  have GD : FnOk P w K mg base CX0 2 fD fdD ["state", "room"] spDrw := ok_drw FD T FM bM
  refine F.ok scPck (fun vs H Q E h => ?_) (fun cdv A outer s H vs Q E hr h => ?_)
  · obtain ⟨d, g, c, a, n, xs, rfl, _⟩ := h
    rfl
  · obtain ⟨d, g, c, a, n, xs, rfl, S, hn, ha, hag, hne, hlen, k⟩ := h
    refine ⟨_, pss_one (ps_ret (pe_ix ix_list (pv 1) (pe_call GD hr (by rfl) T.dr T.kdr bD .nil pass0 (pa_cons (pv 0) (pa_cons (pe_callB call_len_seq (by rfl) T.len PySem.boot_len (pa_cons (pv 1) pa_nil)) pa_nil))) (fun _ _ => rfl))), ?_⟩
    have hpos : 0 < xs.length := List.length_pos_iff.mpr hne
    have had : a ≠ d := by
      obtain ⟨r, t, gs, cs, S⟩ := S
      exact ne_of ha S.dk (by intro z; cases z)
    refine ⟨_, rfl, _, rfl, _, rfl, a, _, rfl, .inl (SqL.of ha), d, g, c, n, (xs.length : Int), rfl, S, hn, by omega, by omega, fun v H' h0 h1 S2 kp => ?_⟩
    have hi : v.toNat < xs.length := by omega
    exact ⟨a, xs, v, xs[v.toNat], rfl, rfl, SqL.of (kp _ _ ha had hag), at_of (j := v.toNat) (by omega) (List.getElem?_eq_getElem hi), k _ _ (List.getElem_mem hi) S2 kp⟩
theorem scBeg : FnScope ["script", "great", "cell"] ["script"] (defScope sBeg) := ⟨rfl, rfl, rfl, by decide +kernel, rfl, by decide +kernel, by decide +kernel⟩
theorem ok_beg {f : Addr} {fd : FuncData} (F : Fun K "_law_begun" "_law_begun" sBeg f fd) (ma : mg "abs" = none) : FnOk P w K mg base CX0 1 f fd ["script"] (spBeg K) := by
  refine F.ok scBeg (fun vs H Q E h => ?_) (fun cdv A outer s H vs Q E hr h => ?_)
  · obtain ⟨a, ns, rfl, _⟩ := h
    rfl
  · obtain ⟨a, ns, rfl, hS, hlen, k⟩ := h
    refine ⟨_, pss_cons (ps_setLc (i := 1) (own := [("cell", 2)]) (g := gName 2) (by rfl) scBeg.nd rfl rfl (sw_true rfl rfl rfl (by decide +kernel)) (pi_list (pv 0)) (blkOk_by (own := [("cell", 2)]) (N := ["script", "great", "cell"]) (sc := defScope sBeg) (by decide +kernel)) (fun _ _ _ _ _ => pg_name (i := 2) scBeg.nd rfl (Or.inl rfl))
        (fun _ _ _ _ _ => pts_one (pt_cmpR op_ge (pe_callB call_abs (by rfl) ma (by decide +kernel) (pa_cons (pv 2) pa_nil)) (pe_op op_pow pe_int pe_int) (nomark _)))
        (fun _ _ _ _ _ => pe_op op_sub (pe_callB call_abs (by rfl) ma (by decide +kernel) (pa_cons (pv 2) pa_nil)) (pe_op op_pow pe_int pe_int)))
      (pss_one (ps_ret (pe_disp (pps_cons pe_str (pv 1) (pps_cons pe_str (pe_lc (own := [("cell", 2)]) (g := gName 2) (tt := tYes) (by rfl) scBeg.nd (pi_list (pv 0)) (blkOk_by (own := [("cell", 2)]) (N := ["script", "great", "cell"]) (sc := defScope sBeg) (by decide +kernel)) (fun _ _ _ _ _ => pg_name (i := 2) scBeg.nd rfl (Or.inl rfl)) (fun _ _ _ _ _ => pts_nil)
        (fun _ _ _ _ _ => pe_callB call_abs (by rfl) ma (by decide +kernel) (pa_cons (pv 2) pa_nil))) (pps_cons pe_str pe_int (pps_cons pe_str pe_int pps_nil)))) (by rfl) (by rfl) (fun z => by cases z) (by decide)))), ?_⟩
    refine ⟨_, rfl, a, rfl, ⟨_, hS⟩, fun g hg => lc_list (K := K) (a := a) (xs := ns.map V.int)
      (fun i H' => ∃ gs : List Int, H' g = some (.lst (gs.map V.int)) ∧ (∀ x ∈ gs, 0 ≤ x) ∧ gs.length ≤ i ∧ Same H H') ⟨[], upd_same, (fun x hx => by cases hx), Nat.le_refl _, same_new hg⟩ (fun i H' _ ⟨_, _, _, _, s1⟩ => s1.seq hS) ?_ ?_⟩
    · rintro i x H' hi ⟨gs, h1, h2, h3, s1⟩
      have hil : i < (ns.map V.int).length := (List.getElem?_eq_some_iff.mp hi).1
      rw [List.length_map] at hil
      rw [List.getElem?_map] at hi
      obtain ⟨z, _, rfl⟩ := Option.map_eq_some_iff.mp hi
      refine ⟨rfl, ?_⟩
      refine ⟨_, rfl, z, rfl, _, _, rfl, rfl, ⟨by decide, by decide, by decide⟩, _, _, rfl, rfl, _, rfl, ?_⟩
      by_cases hz : (10 : Int) ^ (18 : Int).toNat ≤ (if z < 0 then -z else z)
      · refine ifT (decide_eq_true hz) ?_
        refine ⟨_, rfl, z, rfl, _, _, rfl, rfl, ⟨by decide, by decide, by decide⟩, _, _, rfl, rfl, ?_⟩
        refine ⟨gs.map V.int, h1, by rw [List.length_map, sizeLine_eq]; omega, gs ++ [(if z < 0 then -z else z) - (10 : Int) ^ (18 : Int).toNat], ?_, ?_, ?_, ?_⟩
        · rw [upd_same, List.map_append]
          rfl
        · intro x hx
          rcases List.mem_append.mp hx with hx | hx
          · exact h2 x hx
          · rw [List.mem_singleton.mp hx]
            omega
        · rw [List.length_append]
          show gs.length + 1 ≤ i + 1
          omega
        · intro b o e
          rw [upd_ne (ne_of_none e hg)]
          exact s1 _ _ e
      · refine ifF (decide_eq_false hz) ?_
        exact ⟨gs, h1, h2, by omega, s1⟩
    · rw [List.length_map]
      rintro H1 ⟨gs, h1, h2, h3, s1⟩
      refine fun p hp => ?_
      have hgp : g ≠ p := ne_of_none h1 hp
      refine ⟨_, rfl, _, rfl, a, rfl, ⟨_, (s1.trans (same_new hp)).seq hS⟩, fun c hc => lc_list (K := K) (a := a) (xs := ns.map V.int)
        (fun i H' => ∃ cs : List Int, H' c = some (.lst (cs.map V.int)) ∧ cs.length ≤ i ∧ Same (upd H1 p (.dK [])) H') ⟨[], upd_same, Nat.le_refl _, same_new hc⟩ (fun i H' _ ⟨_, _, _, s2⟩ => ((s1.trans (same_new hp)).trans s2).seq hS) ?_ ?_⟩
      · rintro i x H' hi ⟨cs, h4, h5, s2⟩
        have hil : i < (ns.map V.int).length := (List.getElem?_eq_some_iff.mp hi).1
        rw [List.length_map] at hil
        rw [List.getElem?_map] at hi
        obtain ⟨z, _, rfl⟩ := Option.map_eq_some_iff.mp hi
        refine ⟨rfl, ?_⟩
        refine ⟨_, rfl, z, rfl, cs.map V.int, h4, by rw [List.length_map, sizeLine_eq]; omega, cs ++ [if z < 0 then -z else z], ?_, ?_, ?_⟩
        · rw [upd_same, List.map_append]
          rfl
        · rw [List.length_append]
          show cs.length + 1 ≤ i + 1
          omega
        · intro b o e
          rw [upd_ne (ne_of_none e hc)]
          exact s2 _ _ e
      · rw [List.length_map]
        rintro H2 ⟨cs, h4, h5, s2⟩
        have hpc : p ≠ c := ne_of_none upd_same hc
        have hgc : g ≠ c := ne_of_none (by rw [upd_ne hgp]; exact h1) hc
        refine ⟨s2 _ _ upd_same, StKV g c 0 0, rfl, (by show 4 ≤ 15; decide), ?_⟩
        rw [merge_st]
        refine k p g c _ ⟨0, 0, gs, cs, upd_same, ?_, ?_, hgc, Int.le_refl _, h2, Int.le_refl _, Int.le_refl _, by omega, by omega⟩ ?_ (s1.free hp) hg
        · rw [upd_ne hgp]
          exact s2 _ _ (by rw [upd_ne hgp]; exact h1)
        · rw [upd_ne hpc.symm]
          exact h4
        · intro b o e
          have hbp : b ≠ p := ne_of_none (s1 _ _ e) hp
          rw [upd_ne hbp]
          exact s2 _ _ (by rw [upd_ne hbp]; exact s1 _ _ e)
end
end K67

set_option Elab.async false
set_option linter.all false
set_option pp.maxSteps 700
set_option maxRecDepth 100000
set_option maxHeartbeats 2000000
namespace K67
open PySem PySem.Spec PyProof.Rows L2
open TL (tl)
open LamX (GivesTo CodeO Tabs TabS TabB tLam pe_lamcall lamCx lamEnv lamS_by ExtN)
abbrev sCgt : Stmt := top 38
/-! ### an error that was caught and is kept -/
def exh (a : Addr) (cls : Value) (d : Option Addr) : HO := .ext fun h => ∃ (oe : Obj) (vs : Array Value), h.get? a = some oe ∧ Zc cls d oe ∧ oe.data = .fields vs
theorem exh_ok {P : Program} {w : World} {H : Hp} {h : Heap} {a : Addr} {cls : Value} {d : Option Addr} {oe : Obj} {vs : Array Value} (e : h.get? a = some oe) (z : Zc cls d oe) (hd : oe.data = .fields vs) : ObjOk P w H h a (exh a cls d) :=
  ⟨⟨oe, vs, e, z, hd⟩, ⟨oe, e⟩, fun h1 h2 x k => by
    obtain ⟨o1, v1, e1, z1, d1⟩ := x
    exact ⟨o1, v1, k _ e1, z1, d1⟩⟩
theorem exh_at {P : Program} {w : World} {H : Hp} {h : Heap} {a : Addr} {cls : Value} {d : Option Addr} (hok : HOk P w H h) (e : H a = some (exh a cls d)) : ∃ (oe : Obj) (vs : Array Value), h.get? a = some oe ∧ Zc cls d oe ∧ oe.data = .fields vs := by
  have x : ObjOk P w H h a (.ext fun h => ∃ (oe : Obj) (vs : Array Value), h.get? a = some oe ∧ Zc cls d oe ∧ oe.data = .fields vs) := hok a _ e
  exact x.1
section
variable {X : Cx} {pins : List (Addr × Obj)} {σ : L2.St} {H : Hp} {s : Shared}
theorem inv_track {a : Addr} {oe : Obj} {vs : Array Value} {cls : Value} {d : Option Addr} (I : Inv X pins σ H s) (ha : s.heap.get? a = some oe) (hz : Zc cls d oe) (hd : oe.data = .fields vs) (na : H a = none)
    (n0 : X.s_0.heap.get? a = none) (nL : a ≠ X.env.locals) (np : ∀ p ∈ X.pn ++ pins, p.1 ≠ a) : Inv X pins σ (upd H a (exh a cls d)) s := by
  have nH : ∀ {b : Addr} {o : HO}, H b = some o → b ≠ a := fun {b o} e => ne_of_none e na
  refine ⟨I.ok, I.os, I.bare, ⟨I.base.keep, I.base.slot, ?_, I.base.there, ?_, ?_, ?_⟩, I.loc, I.cell, ?_, ?_, ?_, ?_, I.len⟩
  · intro b o q n hx
    have : b ≠ a := fun z => by rw [z, n0] at q; cases q
    rw [upd_ne this]
    exact I.base.free b o q n hx
  · intro b xs q
    have q1 := I.base.tups b xs q
    rw [upd_ne (nH q1)]
    exact q1
  · intro b o u q
    have q1 := I.base.frzs b o u q
    rw [upd_ne (nH q1)]
    exact q1
  · intro b ps q
    obtain ⟨more, q1⟩ := I.base.tbls b ps q
    exact ⟨more, by rw [upd_ne (nH q1)]; exact q1⟩
  · rw [upd_ne nL.symm]
    exact I.free
  · intro x c e
    obtain ⟨v, o, h1, h2⟩ := I.cell x c e
    have : c ≠ a := fun z => by
      rw [z, ha] at h1
      cases h1
      rw [hd] at h2
      cases h2
    rw [upd_ne this]
    exact I.freeC x c e
  · intro p hp
    obtain ⟨p1, p2, p3, p4, p5⟩ := I.pin p hp
    exact ⟨p1, by rw [upd_ne (np p hp)]; exact p2, p3, p4, p5⟩
  · intro b o e
    by_cases hb : b = a
    · subst hb
      rw [upd_same] at e
      cases e
      exact exh_ok ha hz hd
    · rw [upd_ne hb] at e
      exact (I.hok b o e).stay (fun c v _ q => q) (fun c q => by rw [upd_ne (nH q)]; exact q) fun c xs q => by rw [upd_ne (nH q)]; exact q
end
/-- try .. except x as n: the error stays known behind the suite -/
def wKp (K : PySem.W.Frag) (c : Value) (i : Nat) (ts : Addr → Value → Option Addr → TS) (Wout : WX) (D : Ends) : WX := fun cls d σ H =>
  ∃ b, PySem.W.exmOne K cls c = some b ∧ (b = true → ∀ a, H a = none → ts a cls d { nx := fun σ' H' => D.nx (σ'.set i none) (upd H' a (exh a cls d)), rt := fun v H' => D.rt v (upd H' a (exh a cls d)), bk := fun σ' H' => D.bk (σ'.set i none) (upd H' a (exh a cls d)), ct := fun σ' H' => D.ct (σ'.set i none) (upd H' a (exh a cls d)) } (σ.set i (some (.ref a))) H) ∧ (b = false → Wout cls d σ H)
section
variable {X : Cx} {x n : Str} {c : Value} {i : Nat} {body suite : List Stmt} {b₀ : Stmt} {np pos pos' : Pos} {tb : WX → TS} {ts : Addr → Value → Option Addr → TS} {Wout : WX}
theorem ps_try_keep (hs : X.stack = X.env :: X.outer) (hf : X.env.frame = some X.env.locals) (hex : X.ex = []) (hN : X.N.Nodup) (hi : X.N[i]? = some n) (hln : X.env.kindOf n = some .local) (hc : Names X x c) (tk : Takes X Wout)
    (hb : ∀ (W : WX) (pn : List (Addr × Obj)) (xe : Value → Shared → Prop), Takes (X.tr pn xe) W → PassesOwn (model X.prog X.w) X.A X.env xe → PSs (X.tr pn xe) body (tb W))
    (hsu : ∀ (a : Addr) (oe : Obj) (cls : Value) (d : Option Addr) (pn : List (Addr × Obj)), Zc cls d oe → (∃ vs, oe.data = .fields vs) → PSs (X.suite a ((a, oe) :: pn)) (b₀ :: suite) (ts a cls d)) :
    PS X (.Try body [.ExceptHandler (some (.Name x np)) (some n) (b₀ :: suite) pos'] [] [] pos) (fun D σ H => tb (wKp X.K c i ts Wout D) D σ H) := by
  refine ⟨fun pins s σ H D I h => ?_⟩
  have ok := I.ok
  have hfr : X.A.frames = some (X.env :: X.outer) := by rw [ok.frames, hs]
  have hloc : Loc X.env.scope n := .inl hln
  refine wpAny_Try_except ?_
  refine wpAny_mono ((hb (wKp X.K c i ts Wout D) (X.pn ++ pins) (fun e s₁ => wpAny (model X.prog X.w) X.A (noteFrame e X.env) (fun _ s₂ => wpAny (model X.prog X.w) X.A (setFlight e none) (fun _ s₃ =>
    wpAny (model X.prog X.w) X.A (handleBy e X.env [.ExceptHandler (some (.Name x np)) (some n) (b₀ :: suite) pos']) (SP X pins D) X.xe s₃) X.xe s₂) X.xe s₁) (fun u s' xx => ?_) PassesOwn.looking).run [] s σ H D (I.toTry _) h) (fun f s1 hsp => ?_) (fun e s1 he => he)
  · obtain ⟨a, B, sI, pins', σ', H', cls, d, rfl, J', nb, up, sky, na, os, ag, b, hb1, hyes, hno⟩ := xx
    have J : Inv X pins σ' H' sI := J'.ofTry ok
    have sky' : Sky B (X.env :: X.outer) a (Zc cls d) X.env.locals s'.heap := by rw [← hs]; exact sky
    show wpAny (model X.prog X.w) X.A (noteFrame (.ref a) X.env) _ _ _
    refine Sky.land Zc.steady hfr hf sky' fun h3 fl3 up3 => ?_
    have J3 : Inv X pins σ' H' { s' with heap := h3 } := J.landed nb fl3.1 (up.trans up3) os ag
    obtain ⟨oe3, vs3, he3, hz3, hd3⟩ := fl3.there
    have nfr : a ∉ frs (X.env :: X.outer) := fun hm => by
      obtain ⟨_, o', e', hnf⟩ := fl3.2.2.1.mem hm
      rw [he3] at e'; cases e'
      exact hnf _ hd3
    have nL : a ≠ X.env.locals := fun z => nfr (List.mem_filterMap.mpr ⟨X.env, List.mem_cons_self, by rw [hf, z]⟩)
    have nF : a ∉ X.fs := fun hm => by
      obtain ⟨e, he, q⟩ := List.mem_filterMap.mp hm
      exact nfr (List.mem_filterMap.mpr ⟨e, List.mem_cons_of_mem _ he, q⟩)
    have ba : B.get? a = none := fl3.2.1
    have nS : a ∉ frs X.stack := by rw [hs]; exact nfr
    -- the error is newer than the def's entry, and than all that is pinned
    have nI : sI.heap.get? a = none := by
      cases e : sI.heap.get? a with
      | none => rfl
      | some o =>
        have := nb a o e nS
        rw [ba] at this
        cases this
    have n0 : X.s_0.heap.get? a = none := by
      cases e : X.s_0.heap.get? a with
      | none => rfl
      | some o =>
        obtain ⟨o', e'⟩ := J.base.there a o e (by rw [hex]; exact List.not_mem_nil)
        rw [nI] at e'
        cases e'
    have npn : ∀ p ∈ X.pn ++ pins, p.1 ≠ a := fun p hp z => by
      have := (J.pin p hp).1
      rw [z, nI] at this
      cases this
    have S3 := J3.suite he3 hd3 na nL nF
    refine wpAny_handleBy_cons (codeAny_handlers_test ?_) (by intro q; cases q)
    have LT : PySem.W.Looks (model X.prog X.w) h3 (typeOf (.ref a)) cls := fun A Q E s k q => wpAny_typeOf_ref (k _ _ he3) (by rw [hz3.1]; exact q)
    have LM := PySem.W.exm_one (M := model X.prog X.w) (J3.kIn) LT hb1
    have test : ∀ {Q : Value → Shared → Prop} {E : Value → Shared → Prop}, Q c { s' with heap := h3 } → wpAny (model X.prog X.w) (X.A.mark (some (.ref a))) (eval (.Name x np) X.env) Q E { s' with heap := h3 } := fun {Q E} q => by
      obtain ⟨hg, hdbg, hm | ⟨hm, hv, hnn⟩⟩ := hc
      · exact ld_glob (X := X.suite a ((a, oe3) :: (X.pn ++ pins))) S3 hg hm q hdbg
      · exact ld_blt (X := X.suite a ((a, oe3) :: (X.pn ++ pins))) S3 hg hm hv q hnn hdbg
    refine test (LM.here ?_)
    cases b with
    | true =>
      refine codeAny_handlers_suite_as ?_
      refine HandSPX.lands_againZ fl3 fun h4 fl4 up4 => ?_
      have J4 : Inv X pins σ' H' { s' with heap := h4 } := J.landed nb fl4.1 ((up.trans up3).trans up4) os ag
      obtain ⟨oe4, vs4, he4, hz4, hd4⟩ := fl4.there
      have S4 := J4.suite he4 hd4 na nL nF
      refine store_ok (X := X.suite a ((a, oe4) :: (X.pn ++ pins))) (v := .ref a) S4 hN hi hloc rfl (fun s5 S5 => ?_) (.inr hln)
      refine wpAny_mono ((hsu a oe4 cls d (X.pn ++ pins) hz4 ⟨_, hd4⟩).run [] s5 _ H' _ S5 (hyes rfl a na)) (fun f s6 hsp => ?_) (fun _ _ z => False.elim z)
      have end_ : ∀ {σ6 : L2.St} {H6 : Hp} {Q : Shared → Prop}, Inv (X.suite a ((a, oe4) :: (X.pn ++ pins))) [] σ6 H6 s6 → (∀ s7, Inv X pins (σ6.set i none) (upd H6 a (exh a cls d)) s7 → Q s7) →
          wpAny (model X.prog X.w) X.A (do bindName X.env n .none; unbindBehindTheSuite X.env n pos') (fun _ s7 => Q s7) X.xe s6 := fun {σ6 H6 Q} S6 hq => by
        obtain ⟨g1, g2, _, _, _⟩ := S6.pin (a, oe4) (List.mem_append_left _ List.mem_cons_self)
        exact gone_ok (inv_track (S6.unsuite ok) g1 hz4 hd4 g2 n0 nL npn) hN hi hln hq
      cases f with
      | next =>
        obtain ⟨σ6, H6, S6, q6⟩ := hsp
        exact end_ S6 fun s7 J7 => ⟨_, _, J7, q6⟩
      | brk =>
        obtain ⟨σ6, H6, S6, q6⟩ := hsp
        exact end_ S6 fun s7 J7 => ⟨_, _, J7, q6⟩
      | cont =>
        obtain ⟨σ6, H6, S6, q6⟩ := hsp
        exact end_ S6 fun s7 J7 => ⟨_, _, J7, q6⟩
      | ret u =>
        obtain ⟨v6, σ6, H6, S6, r6, q6⟩ := hsp
        exact end_ S6 fun s7 J7 => ⟨_, _, _, J7, r6, q6⟩
    | false =>
      show wpAny _ X.A (handleBy (.ref a) X.env []) _ _ _
      refine wpAny_handleBy_nil ?_
      obtain ⟨k1, k2, k3, oe, vs, T, oT, ts', he, hz, hd, h1, hr⟩ := id fl3
      unfold PySem.passOn
      refine wpAny_bind (wpAny_field he hd h1 ?_)
      rw [if_neg (show ¬ ((Value.ref T == Value.none) = true) from by simp)]
      have fin : wpAny (model X.prog X.w) X.A (setFlight (.ref a) X.env.frame) (fun _ s4 => wpAny (model X.prog X.w) X.A (throw (.ref a) : Sem Flow) (SP X pins D) X.xe s4) X.xe { s' with heap := h3 } := by
        rw [hf]
        refine HandSPX.setFlight_upZ fl3 fun h4 hh4 up4 => wpAny_throw (tk _ _ ?_)
        exact ⟨a, B, sI, pins, σ', H', cls, d, rfl, J, nb, (up.trans up3).trans up4, .inr (.inr (by rw [hs]; exact hh4)), na, os, ag, hno rfl⟩
      first
        | exact wpAny_bind (wpAny_pure (wpAny_bind fin))
        | exact wpAny_bind fin
  · cases f with
    | next =>
      obtain ⟨σ', H', J', q⟩ := hsp
      exact wpAny_execs_nil ⟨σ', H', J'.ofTry ok, q⟩
    | brk =>
      obtain ⟨σ', H', J', q⟩ := hsp
      exact ⟨σ', H', J'.ofTry ok, q⟩
    | cont =>
      obtain ⟨σ', H', J', q⟩ := hsp
      exact ⟨σ', H', J'.ofTry ok, q⟩
    | ret u =>
      obtain ⟨v, σ', H', J', r, q⟩ := hsp
      exact ⟨v, σ', H', J'.ofTry ok, r, q⟩
end
/-! ### what is asked of a kept error -/
theorem exh_inst {X : Cx} {pins : List (Addr × Obj)} {σ : L2.St} {H : Hp} {s : Shared} {a D dd : Addr} {fs : List (Str × V)} (I : Inv X pins σ H s) (h1 : H a = some (exh a (.ref D) (some dd))) (h2 : H dd = some (.xd fs)) :
    ∃ (oe od : Obj) (mA : Str → Option Value), PySem.W.InstAt s.heap a oe D (some od) ∧ (∀ f, RelO (fs.lookup f) (mA f)) ∧ ∀ n, PySem.W.lookIn n od = some (mA n) := by
  obtain ⟨oe, vs, ha, hz, hd⟩ := exh_at I.hok h1
  have hx : ObjOk X.prog X.w H s.heap dd (.xd fs) := I.hok dd _ h2
  obtain ⟨mA, hns, hr⟩ := hx
  obtain ⟨od, ho, hl⟩ := lookIn_ns hns
  exact ⟨oe, od, mA, ⟨ha, hz.1, by unfold PySem.W.notCls; rw [hd] <;> rfl, by rw [hz.2]; exact ho⟩, hr, hl⟩
/-- isinstance(e, c), e a kept error of the class at D -/
def rIsH (K : PySem.W.Frag) (D : Addr) : List V → Hp → VK → Prop := fun xs H Q => ∃ (a dd : Addr) (fs : List (Str × V)) (c : V) (cv : Value) (b : Bool), xs = [.ref a, c] ∧ (∀ u, RelV c u → u = cv) ∧ H a = some (exh a (.ref D) (some dd)) ∧ H dd = some (.xd fs) ∧
  PySem.W.kitOne K (.ref D) cv = some b ∧ Q (.bl b) H
theorem call_isH {X : Cx} {D : Addr} (C : ExcC X.K D) : CallR X (.builtin "isinstance") (rIsH X.K D) := by
  intro pins s σ H xs us Q I r h
  obtain ⟨a, dd, fs, c, cv, b, rfl, hcv, h1, h2, e, q⟩ := h
  obtain ⟨u1, u2, rfl, r1, r2⟩ := vals2 r
  cases r1
  have ec := hcv _ r2
  subst ec
  obtain ⟨oe, od, mA, J, _, _⟩ := exh_inst I h1 h2
  have hcl : (PySem.W.clsIn X.K D).isSome = true := by
    obtain ⟨cd, hc, _⟩ := PySem.W.any_some C.hd
    rw [hc]
    rfl
  exact PySem.W.kia_one (PySem.W.kitx_exc hcl C.hg C.hk C.hs C.ha C.hn C.ht C.hm) I.kIn J e (fun z => nomatch z) fun tk => ⟨.bl b, H, I.kept (t' := tk) fun _ _ z => z, rfl, q⟩
theorem pss_len {X : Cx} {body : List Stmt} {t : TS} {n : Nat} (h : PSs X body t) (hn : X.N.length = n) : PSs X body (fun D σ H => σ.length = n → t D σ H) :=
  ⟨fun pins s σ H D I hh => h.run pins s σ H D I (hh (I.len.trans hn))⟩
theorem pe_weak {X : Cx} {e : Expr} {te : TE} (he : PE X e te) : PE X e (fun σ H Q => ∃ Qc : VK, te σ H Qc ∧ ∀ v H1, Qc v H1 → Q v H1) := by
  refine ⟨fun pins s σ H Q I h => ?_⟩
  obtain ⟨Qc, h, k⟩ := h
  exact thn (he.run pins s σ H Qc I h) fun u s1 ⟨v, H1, I1, r, q⟩ => ⟨v, H1, I1, r, k v H1 q⟩
/-- f(k = v, ..) -/
theorem pe_callK0 {X : Cx} {CX : CXT} {k : Nat} {f : Addr} {fd : FuncData} {ps ks : List Str} {sp : Sp} {E : XK} {x : Str} {p pos : Pos} {kws : List Keyword} {tk : TA} {g : List Value → List Value → List Value} {gV : List V → List V → List V}
    (F : FnOk X.prog X.w X.K X.mg X.base CX k f fd ps sp) (hr : Room k X.A) (hg : Gl X x) (hm : X.mg x = some (.ref f)) (hk : PySem.W.keepIn X.K (.ref f) = true) (hb : KBinds X.K fd ps ks g gV) (hx : Passes CX X E)
    (hkw : PK X kws tk) (hall : (backToKw pos (keywordEach kws X.env)).all (·.1.isSome) = true := by rfl) (hks : (backToKw pos (keywordEach kws X.env)).filterMap (·.1) = ks := by rfl)
    (hdb : (x == ("__debug__" : Str)) = false := by decide) (hpl : ((backTo pos (starEach [] X.env)).any (·.1) || (backToKw pos (keywordEach kws X.env)).any (·.1.isNone)) = false := by rfl) :
    PE X (.Call (.Name x p) [] kws pos) (fun σ H Q => tk σ H fun zs H2 => sp (gV [] zs) H2 Q E) := by
  refine ⟨fun pins s σ H Q I h => ?_⟩
  refine wpAny_Call_Name_kw (ld_glob I hg hm ?_ hdb)
  refine PySem.W.callWith_KW0 (h₀ := X.base) I.ok.mod.kin hk hall ?_ hpl
  refine thn (hkw.run pos pins s σ H _ I h) fun ws s2 ⟨zs, H2, I2, rz, q2⟩ => ⟨I2.kIn, ?_⟩
  rw [hks]
  exact run_fnk F hr hb hx I2 .nil rz q2
/-- _law_caught(action): what the call raises, kept; or None -/
def TTc (K : PySem.W.Frag) (CE : Addr) : (XK → Hp → VK → Prop) → Hp → VK → Prop := fun tl H Q =>
  tl (fun cls d H1 => ∃ b, PySem.W.exmOne K cls (.ref CE) = some b ∧ (b = true → ∀ a, H1 a = none → Q (.ref a) (upd H1 a (exh a cls d))) ∧ (b = false → False)) H (fun _ H1 => Q .non H1)
abbrev NC : List Str := ["action", "found", "error"]
theorem scC : FnScope NC ["action"] (defScope sCgt) := ⟨rfl, rfl, rfl, by decide +kernel, rfl, by decide +kernel, by decide +kernel⟩
theorem caught_gives {X : Cx} {CE g : Addr} {cdg : Value} {q : Str} (hme : X.mg "ClockError" = some (.ref CE)) : GivesTo X NC "_law_caught" (defScope sCgt) g cdg (defBody sCgt) "action" q (TTc X.K CE) := by
  intro f c' s H Q tl act hc h
  refine ⟨_, pss_cons (ps_set (i := 1) scC.nd rfl (Or.inl rfl) pe_non)
    (pss_cons (ps_try_keep (X := (cxOf C8.CX0 X.prog X.w X.K X.mg X.base NC "_law_caught" (defScope sCgt) g cdg X.A X.stack s H C8.E0).nox) (c := .ref CE) (i := 2)
      (tb := fun W D σ H => ∃ (Ech : XK) (Qc : VK), (∀ cls d σ' H', Ech cls d H' → W cls d σ' H') ∧ σ[0]? = some (some (.ref f)) ∧ H c' = some (CodeO c' q) ∧ tl Ech H Qc ∧ ∀ v H1, Qc v H1 → D.nx σ H1)
      rfl rfl rfl scC.nd rfl rfl ⟨rfl, rfl, .inl hme⟩ takes0 (fun W pn xe tk _ => ?_) (fun a oe cls d pn _ _ => pss_len (X := Cx.suite (cxOf C8.CX0 X.prog X.w X.K X.mg X.base NC "_law_caught" (defScope sCgt) g cdg X.A X.stack s H C8.E0).nox a ((a, oe) :: pn)) (n := 3) (pss_one (ps_set (i := 1) scC.nd rfl (Or.inl rfl) (pv 2))) rfl))
    (pss_one (ps_ret (pv 1)))), ?_⟩
  · refine ⟨fun pins s' σ H' D I h' => ?_⟩
    obtain ⟨Ech, Qc, hW, h1, h2, h3, h4⟩ := h'
    have hp := fun p1 p2 => act W pn xe Ech p1 p2 tk hW
    exact (pss_one (ps_expr (pe_weak (hp _ _)))).run pins s' σ H' D I ⟨Qc, ⟨h1, h2, h3⟩, h4⟩
  · refine ⟨_, _, ?_, rfl, hc, h, fun v H1 q => ⟨_, rfl, q⟩⟩
    rintro cls d σ' H' ⟨b, e1, e2, e3⟩
    refine ⟨b, e1, fun hb a ha hl => ?_, fun hb => (e3 hb).elim⟩
    match σ', hl with
    | [x, y, z], _ => exact ⟨_, rfl, _, rfl, e2 hb a ha⟩
    | [], hl => simp at hl
    | [_], hl => simp at hl
    | [_, _], hl => simp at hl
    | _ :: _ :: _ :: _ :: _, hl => simp at hl
end K67

set_option Elab.async false
set_option linter.all false
set_option pp.maxSteps 700
set_option maxRecDepth 100000
set_option maxHeartbeats 2000000
namespace K67
open PySem PySem.Spec PyProof.Rows L2
open TL (tl)
/-! ### any value that the law makes, as data -/
inductive Dt where
  | non | bl (b : Bool) | int (i : Int) | str (s : Str) | lst (l : List Dt) | tup (l : List Dt) | dic
mutual
inductive DV (g : Addr) (H : Hp) : V → Dt → Prop
  | non : DV g H .non .non
  | bl (b : Bool) : DV g H (.bl b) (.bl b)
  | int (i : Int) : DV g H (.int i) (.int i)
  | str {s : Str} (h : s.length ≤ 10000) : DV g H (.str s) (.str s)
  | lst {a : Addr} {xs : List V} {ds : List Dt} (e : H a = some (.lst xs)) (n : a ≠ g) (h : ds.length ≤ 20000) (r : DVs g H xs ds) : DV g H (.ref a) (.lst ds)
  | tup {a : Addr} {xs : List V} {ds : List Dt} (e : H a = some (.tup xs)) (h : ds.length ≤ 20000) (r : DVs g H xs ds) : DV g H (.ref a) (.tup ds)
  | dic {a : Addr} (e : H a = some (.dK [])) : DV g H (.ref a) .dic
inductive DVs (g : Addr) (H : Hp) : List V → List Dt → Prop
  | nil : DVs g H [] []
  | cons {v : V} {vs : List V} {d : Dt} {ds : List Dt} (h : DV g H v d) (r : DVs g H vs ds) : DVs g H (v :: vs) (d :: ds)
end
structure Kv (g : Addr) (H H' : Hp) : Prop where
  lst : ∀ b xs, H b = some (.lst xs) → b ≠ g → H' b = some (.lst xs)
  tup : ∀ b xs, H b = some (.tup xs) → H' b = some (.tup xs)
  dic : ∀ b, H b = some (.dK []) → H' b = some (.dK [])
theorem Kv.of {g : Addr} {H H' : Hp} (s : Same H H') : Kv g H H' := ⟨fun b xs e _ => s _ _ e, fun b xs e => s _ _ e, fun b e => s _ _ e⟩
theorem Kv.trans {g : Addr} {H H1 H2 : Hp} (a : Kv g H H1) (b : Kv g H1 H2) : Kv g H H2 := ⟨fun c xs e n => b.lst _ _ (a.lst _ _ e n) n, fun c xs e => b.tup _ _ (a.tup _ _ e), fun c e => b.dic _ (a.dic _ e)⟩
theorem Kv.kp {g d c : Addr} {H H' : Hp} {n : Nat} (S : StA H d g c n) (k : Kp d g H H') : Kv g H H' := by
  obtain ⟨r, t, gs, cs, S⟩ := S
  refine ⟨fun b xs e n => k _ _ e (fun z => ?_) n, fun b xs e => k _ _ e (fun z => ?_) (fun z => ?_), fun b e => k _ _ e (fun z => ?_) (fun z => ?_)⟩
  · rw [z, S.dk] at e
    cases e
  · rw [z, S.dk] at e
    cases e
  · rw [z, S.gl] at e
    cases e
  · rw [z, S.dk] at e
    have q := Option.some.inj e
    unfold StKV at q
    cases q
  · rw [z, S.gl] at e
    cases e
mutual
theorem DV.keep {g : Addr} {H H' : Hp} (k : Kv g H H') : ∀ {v : V} {d : Dt}, DV g H v d → DV g H' v d
  | _, _, .non => .non
  | _, _, .bl b => .bl b
  | _, _, .int i => .int i
  | _, _, .str h => .str h
  | _, _, .lst e n h r => .lst (k.lst _ _ e n) n h (DVs.keep k r)
  | _, _, .tup e h r => .tup (k.tup _ _ e) h (DVs.keep k r)
  | _, _, .dic e => .dic (k.dic _ e)
theorem DVs.keep {g : Addr} {H H' : Hp} (k : Kv g H H') : ∀ {v : List V} {d : List Dt}, DVs g H v d → DVs g H' v d
  | _, _, .nil => .nil
  | _, _, .cons h r => .cons (DV.keep k h) (DVs.keep k r)
end
theorem DVs.len {g : Addr} {H : Hp} : ∀ {xs : List V} {ds : List Dt}, DVs g H xs ds → xs.length = ds.length
  | _, _, .nil => rfl
  | _, _, .cons _ r => congrArg (· + 1) r.len
theorem DVs.at_ {g : Addr} {H : Hp} : ∀ {xs : List V} {ds : List Dt}, DVs g H xs ds → ∀ {i : Nat} {v : V}, xs[i]? = some v → ∃ d, ds[i]? = some d ∧ DV g H v d
  | _, _, .nil, _, _, e => by cases e
  | _, _, .cons h r, 0, _, e => by
    obtain rfl := Option.some.inj e
    exact ⟨_, rfl, h⟩
  | _, _, .cons h r, i + 1, _, e => r.at_ (i := i) e
theorem DVs.at' {g : Addr} {H : Hp} : ∀ {xs : List V} {ds : List Dt}, DVs g H xs ds → ∀ {i : Nat} {d : Dt}, ds[i]? = some d → ∃ v, xs[i]? = some v ∧ DV g H v d
  | _, _, .nil, _, _, e => by cases e
  | _, _, .cons h r, 0, _, e => by
    obtain rfl := Option.some.inj e
    exact ⟨_, rfl, h⟩
  | _, _, .cons h r, i + 1, _, e => r.at' (i := i) e
theorem DVs.app {g : Addr} {H : Hp} : ∀ {xs ys : List V} {ds es : List Dt}, DVs g H xs ds → DVs g H ys es → DVs g H (xs ++ ys) (ds ++ es)
  | _, _, _, _, .nil, q => q
  | _, _, _, _, .cons h r, q => .cons h (r.app q)
def isStr : Dt → Bool | .str _ => true | _ => false
def isTup : Dt → Bool | .tup _ => true | _ => false
def isBl : Dt → Bool | .bl _ => true | _ => false
def isInt : Dt → Bool | .int _ => true | _ => false
theorem DV.ty {K : PySem.W.Frag} {g : Addr} {H : Hp} {v : V} {d : Dt} (h : DV g H v d) : ∃ t, TyX K H v t ∧ PySem.W.kitOne K t (.type "str") = some (isStr d) ∧ PySem.W.kitOne K t (.type "tuple") = some (isTup d) ∧
    PySem.W.kitOne K t (.type "bool") = some (isBl d) ∧ PySem.W.kitOne K t (.type "int") = some (isInt d || isBl d) := by
  cases h with
  | non => exact ⟨_, .base .non, kit_ty (show kitB "NoneType" "str" = some false by decide +kernel), kit_ty (show kitB "NoneType" "tuple" = some false by decide +kernel), kit_ty (show kitB "NoneType" "bool" = some false by decide +kernel), kit_ty (show kitB "NoneType" "int" = some false by decide +kernel)⟩
  | bl b => exact ⟨_, .base (.bl _), kit_ty (show kitB "bool" "str" = some false by decide +kernel), kit_ty (show kitB "bool" "tuple" = some false by decide +kernel), kit_ty (show kitB "bool" "bool" = some true by decide +kernel), kit_ty (show kitB "bool" "int" = some true by decide +kernel)⟩
  | int i => exact ⟨_, .base (.int _), kit_ty (show kitB "int" "str" = some false by decide +kernel), kit_ty (show kitB "int" "tuple" = some false by decide +kernel), kit_ty (show kitB "int" "bool" = some false by decide +kernel), kit_ty (show kitB "int" "int" = some true by decide +kernel)⟩
  | str h => exact ⟨_, .base (.str _), kit_ty (show kitB "str" "str" = some true by decide +kernel), kit_ty (show kitB "str" "tuple" = some false by decide +kernel), kit_ty (show kitB "str" "bool" = some false by decide +kernel), kit_ty (show kitB "str" "int" = some false by decide +kernel)⟩
  | lst e n h r => exact ⟨_, .base (.lst e), kit_ty (show kitB "list" "str" = some false by decide +kernel), kit_ty (show kitB "list" "tuple" = some false by decide +kernel), kit_ty (show kitB "list" "bool" = some false by decide +kernel), kit_ty (show kitB "list" "int" = some false by decide +kernel)⟩
  | tup e h r => exact ⟨_, .base (.tup e), kit_ty (show kitB "tuple" "str" = some false by decide +kernel), kit_ty (show kitB "tuple" "tuple" = some true by decide +kernel), kit_ty (show kitB "tuple" "bool" = some false by decide +kernel), kit_ty (show kitB "tuple" "int" = some false by decide +kernel)⟩
  | dic e => exact ⟨_, .base (.dK e), kit_ty (show kitB "dict" "str" = some false by decide +kernel), kit_ty (show kitB "dict" "tuple" = some false by decide +kernel), kit_ty (show kitB "dict" "bool" = some false by decide +kernel), kit_ty (show kitB "dict" "int" = some false by decide +kernel)⟩
/-! ### any value == a text -/
section
open PySem.SeqAt
variable {s : Shared}
theorem dict_eq_str_no (l : Addr) (c : Value) (es : Array DictEntry) (n : Nat) (dd : Option Addr) (sl : Array (Option Value)) (b : Str) (u : PySem.Tok) :
    Meets (Builtin.«dict.__eq__» ⟨[.ref l, .str b u], []⟩) (fun _ R s => c = .type "dict" ∧ s.heap.get? l = some { cls := c, dict := dd, data := .dict es n, slots := sl } ∧ R (.ok (.ret .notImplemented)) s) :=
  .of_wp fun prog w A R s h => by obtain ⟨hp, g, d, tk, os⟩ := s; obtain ⟨rfl, ho, h⟩ := h; have f1 := PySem.F.sub_str_dict; wp_walk using wpAny_loadPart' ho; exact ⟨_, rfl, h⟩
theorem str_eq_dict_no (b : Str) (u : PySem.Tok) (l : Addr) (c : Value) (es : Array DictEntry) (n : Nat) (dd : Option Addr) (sl : Array (Option Value)) :
    Meets (Builtin.«str.__eq__» ⟨[.str b u, .ref l], []⟩) (fun _ R s => s.heap.get? l = some { cls := c, dict := dd, data := .dict es n, slots := sl } ∧ R (.ok (.ret .notImplemented)) s) :=
  .of_wp fun prog w A R s h => by obtain ⟨hp, g, d, tk, os⟩ := s; obtain ⟨ho, h⟩ := h; wp_walk using wpAny_loadPart' ho, wpAny_load ho; exact ⟨_, rfl, h⟩
theorem rc_dict_str {A : Around} {l : Addr} {c : Value} {es : Array DictEntry} {n : Nat} {dd : Option Addr} {sl : Array (Option Value)} (b : Str) (u : PySem.Tok) (hc : c = .type "dict") (ho : s.heap.get? l = some { cls := c, dict := dd, data := .dict es n, slots := sl }) (hu : A.units < cLine) :
    RcAt A s (.ref l) (.str b u) false := by
  intro prog w E Q h
  exact rc_eq_decline_or (k := false) ⟨_, ho, hc⟩ (typeIs_str s b u) (by decide) PySem.F.sub_str_dict PySem.F.slot_dict_eq PySem.F.slot_str_eq_refl
    (fun _ q => call_meets PySem.F.slot_dict_eq ⟨_, ho, hc⟩ PySem.F.entry_dict_eq (PySem.F.args_dict_eq_2 _ _) (dict_eq_str_no l c es n dd sl b u) ⟨hc, ho, q⟩)
    (fun _ q => call_meets PySem.F.slot_str_eq_refl (typeIs_str s b u) PySem.F.entry_str_eq (PySem.F.args_str_eq_2 _ _) (str_eq_dict_no b u l c es n dd sl) ⟨ho, q⟩)
    (fun _ q => wpAny_of_eq (rfl : isSame (.ref l) (.str b u) = pure false) q) (.inr hu) h
end
def eqS (d : Dt) (z : Str) : Bool := match d with
  | .str s => s == z
  | _ => false
section
variable {X : Cx}
theorem op_eqS (hu : X.A.units + 64 < cLine) : OpR X (compareOp .Eq) (fun x y H Q => ∃ (g : Addr) (d : Dt) (z : Str), y = .str z ∧ DV g H x d ∧ Q (.bl (eqS d z)) H) := by
  intro pins s σ H x y v u Q I rx ry h
  obtain ⟨g, d, z, rfl, hd, q⟩ := h
  obtain ⟨tz, rfl⟩ := (show ∃ t, u = Value.str z t from ry)
  have hu' : X.A.units < cLine := by omega
  cases hd with
  | non =>
    cases (show v = Value.none from rx)
    exact SeqAt.RcAt.none_str z tz _ _ _ _ (fin_bl I q rfl)
  | bl b =>
    cases (show v = Value.bool b from rx)
    exact SeqAt.RcAt.bool_str b z tz _ _ _ _ (fin_bl I q rfl)
  | int i =>
    obtain ⟨ti, rfl⟩ := (show ∃ t, v = Value.int i t from rx)
    exact SeqAt.RcAt.int_str i ti z tz _ _ _ _ (fin_bl I q rfl)
  | @str b hb =>
    obtain ⟨ti, rfl⟩ := (show ∃ t, v = Value.str b t from rx)
    exact SeqAt.RcAt.str_str b ti z tz _ _ _ _ (fin_bl I q rfl)
  | @lst a xs ds e n h r =>
    cases (show v = Value.ref a from rx)
    obtain ⟨us, r1, p1, _⟩ := I.list (SqL.of e : SqL X.K H a xs)
    exact SeqAt.RcAt.list_str z tz p1.isList hu' _ _ _ _ (fin_bl I q rfl)
  | @tup a xs ds e h r =>
    cases (show v = Value.ref a from rx)
    obtain ⟨us, r1, p1, _⟩ := I.tuple (SqT.of e : SqT X.K H a xs)
    exact SeqAt.RcAt.tuple_str z tz p1 hu' _ _ _ _ (fin_bl I q rfl)
  | @dic a e =>
    cases (show v = Value.ref a from rx)
    obtain ⟨_, _, _, _, o, es, ep, ho, hx, hd, _⟩ := (show ObjOk X.prog X.w H s.heap a (.dK []) from I.hok a _ e)
    obtain ⟨oc, od, odt, osl⟩ := o
    cases (show odt = .dict es ep from hd)
    exact rc_dict_str z tz hx.1 ho hu' _ _ _ _ (fin_bl I q rfl)
end
end K67

set_option Elab.async false
set_option linter.all false
set_option pp.maxSteps 700
set_option maxRecDepth 100000
set_option maxHeartbeats 2000000
namespace K67
open PySem PySem.Spec PyProof.Rows L2
open TL (tl)
abbrev sWhl : Stmt := top 9
abbrev sWin : Stmt := top 10
abbrev sTof : Stmt := top 11
abbrev sTin : Stmt := top 12



def lenIs (n : Nat) : Dt → Bool | .tup l => decide (l.length = n) | _ => false
def lenIn (lo hi : Int) : Dt → Bool | .tup l => decide (lo ≤ (l.length : Int)) && decide ((l.length : Int) ≤ hi) | _ => false
def intIn (lo hi : Int) : Dt → Bool | .int i => decide (lo ≤ i) && decide (i ≤ hi) | _ => false
/-- a question about any value -/
def spAsk (f : Dt → Bool) : Sp := fun vs H Q _ => ∃ (g : Addr) (v : V) (d : Dt), vs = [v] ∧ DV g H v d ∧ ∀ H', Same H H' → Q (.bl (f d)) H'
def spWin : Sp := fun vs H Q _ => ∃ (g : Addr) (v : V) (d : Dt) (lo hi : Int), vs = [v, .int lo, .int hi] ∧ DV g H v d ∧ ∀ H', Same H H' → Q (.bl (intIn lo hi d)) H'
def spTof : Sp := fun vs H Q _ => ∃ (g : Addr) (v : V) (d : Dt) (n : Nat), vs = [v, .int (n : Nat)] ∧ DV g H v d ∧ ∀ H', Same H H' → Q (.bl (lenIs n d)) H'
def spTin : Sp := fun vs H Q _ => ∃ (g : Addr) (v : V) (d : Dt) (lo hi : Int), vs = [v, .int lo, .int hi] ∧ DV g H v d ∧ ∀ H', Same H H' → Q (.bl (lenIn lo hi d)) H'
structure MgP (K : PySem.W.Frag) (mg : Str → Option Value) (fWhl : Addr) : Prop where
  whl : mg "is_whole" = some (.ref fWhl)
  kwhl : PySem.W.keepIn K (.ref fWhl) = true
  isi : mg "isinstance" = none
  len : mg "len" = none
  int : mg "int" = none
  bol : mg "bool" = none
  tpl : mg "tuple" = none
section
variable {P : Program} {w : World} {K : PySem.W.Frag} {mg : Str → Option Value} {base : Heap}
theorem scWhl : FnScope ["value"] ["value"] (defScope sWhl) := ⟨rfl, rfl, rfl, by decide +kernel, rfl, by decide +kernel, by decide +kernel⟩
theorem ok_whl {f fW : Addr} {fd : FuncData} (F : Fun K "is_whole" "is_whole" sWhl f fd) (T : MgP K mg fW) : FnOk P w K mg base CX0 1 f fd ["value"] (spAsk isInt) := by
  refine F.ok scWhl (fun vs H Q E h => ?_) (fun cdv A outer s H vs Q E hr h => ?_)
  · obtain ⟨g, v, d, rfl, _⟩ := h
    rfl
  · obtain ⟨g, v, d, rfl, hd, k⟩ := h
    obtain ⟨t, ht, k1, k2, k3, k4⟩ := hd.ty (K := K)
    refine ⟨_, pss_one (ps_ret (pe_and (pe_callB call_isi (by rfl) T.isi (by decide +kernel) (pa_cons (pv 0) (pa_cons (pe_bltn (v := .ty "int") (by rfl) T.int boot_int rfl) pa_nil)))
      (pe_one (pe_not (pe_callB call_isi (by rfl) T.isi (by decide +kernel) (pa_cons (pv 0) (pa_cons (pe_bltn (v := .ty "bool") (by rfl) T.bol boot_bool rfl) pa_nil))))))), ?_⟩
    refine ⟨_, rfl, _, _, _, _, _, rfl, .ty "int", ht, k4, _, rfl, ?_⟩
    cases d with
    | int i => exact iteT ⟨_, rfl, _, _, _, _, _, rfl, .ty "bool", ht, k3, _, rfl, k H (Same.refl H)⟩
    | bl b => exact iteT ⟨_, rfl, _, _, _, _, _, rfl, .ty "bool", ht, k3, _, rfl, k H (Same.refl H)⟩
    | non => exact iteF (k H (Same.refl H))
    | str s => exact iteF (k H (Same.refl H))
    | lst l => exact iteF (k H (Same.refl H))
    | tup l => exact iteF (k H (Same.refl H))
    | dic => exact iteF (k H (Same.refl H))
theorem scWin : FnScope ["value", "low", "high"] ["value", "low", "high"] (defScope sWin) := ⟨rfl, rfl, rfl, by decide +kernel, rfl, by decide +kernel, by decide +kernel⟩
theorem ok_win {f fW : Addr} {fd fdW : FuncData} (F : Fun K "is_within" "is_within" sWin f fd) (T : MgP K mg fW) (FW : Fun K "is_whole" "is_whole" sWhl fW fdW) (bW : L2.Binds K fdW ["value"] []) : FnOk P w K mg base CX0 2 f fd ["value", "low", "high"] spWin := by
  have GW : FnOk P w K mg base CX0 1 fW fdW ["value"] (spAsk isInt) := ok_whl FW T
  refine F.ok scWin (fun vs H Q E h => ?_) (fun cdv A outer s H vs Q E hr h => ?_)
  · obtain ⟨g, v, d, lo, hi, rfl, _⟩ := h
    rfl
  · obtain ⟨g, v, d, lo, hi, rfl, hd, k⟩ := h
    refine ⟨_, pss_one (ps_ret (pe_and (pe_call GW hr (by rfl) T.whl T.kwhl bW .nil pass0 (pa_cons (pv 0) pa_nil)) (pe_one (pe_chain op_le op_le (pv 1) (pv 0) (pv 2))))), ?_⟩
    refine ⟨_, rfl, g, v, d, rfl, hd, fun H' s => ⟨_, rfl, ?_⟩⟩
    cases hd with
    | int i =>
      refine iteT ⟨_, rfl, _, rfl, _, _, rfl, rfl, _, rfl, ?_⟩
      have e : intIn lo hi (.int i) = (decide (lo ≤ i) && decide (i ≤ hi)) := rfl
      by_cases h1 : lo ≤ i
      · rw [decide_eq_true h1] at e ⊢
        refine iteT ⟨_, rfl, _, _, rfl, rfl, ?_⟩
        have q := k H' s
        rw [e] at q
        exact q
      · rw [decide_eq_false h1] at e ⊢
        refine iteF ?_
        have q := k H' s
        rw [e] at q
        exact q
    | bl b => exact iteF (k H' s)
    | non => exact iteF (k H' s)
    | str z => exact iteF (k H' s)
    | lst _ _ _ _ => exact iteF (k H' s)
    | tup _ _ _ => exact iteF (k H' s)
    | dic _ => exact iteF (k H' s)
theorem scTof : FnScope ["value", "many"] ["value", "many"] (defScope sTof) := ⟨rfl, rfl, rfl, by decide +kernel, rfl, by decide +kernel, by decide +kernel⟩
theorem ok_tof {f fW : Addr} {fd : FuncData} (F : Fun K "is_tuple_of" "is_tuple_of" sTof f fd) (T : MgP K mg fW) : FnOk P w K mg base CX0 1 f fd ["value", "many"] spTof := by
  refine F.ok scTof (fun vs H Q E h => ?_) (fun cdv A outer s H vs Q E hr h => ?_)
  · obtain ⟨g, v, d, n, rfl, _⟩ := h
    rfl
  · obtain ⟨g, v, d, n, rfl, hd, k⟩ := h
    obtain ⟨t, ht, k1, k2, k3, k4⟩ := hd.ty (K := K)
    refine ⟨_, pss_one (ps_ret (pe_and (pe_callB call_isi (by rfl) T.isi (by decide +kernel) (pa_cons (pv 0) (pa_cons (pe_bltn (v := .ty "tuple") (by rfl) T.tpl boot_tuple rfl) pa_nil)))
      (pe_one (pe_cmpR op_eq (pe_callB call_len_seq (by rfl) T.len PySem.boot_len (pa_cons (pv 0) pa_nil)) (pv 1) (nomark _))))), ?_⟩
    refine ⟨_, rfl, _, _, _, _, _, rfl, .ty "tuple", ht, k2, _, rfl, ?_⟩
    cases hd with
    | @tup a xs ds e h r =>
      refine iteT ⟨_, rfl, a, xs, rfl, .inr (SqT.of e), _, rfl, rfl, ?_⟩
      have q := k H (Same.refl H)
      have e2 : decide (V.int (xs.length : Nat) = V.int (n : Nat)) = lenIs n (.tup ds) := by
        rw [r.len]
        show _ = decide (ds.length = n)
        rw [decide_eq_decide]
        exact ⟨fun z => by injection z with z; omega, fun z => by rw [z]⟩
      rw [e2]
      exact q
    | int i => exact iteF (k H (Same.refl H))
    | bl b => exact iteF (k H (Same.refl H))
    | non => exact iteF (k H (Same.refl H))
    | str z => exact iteF (k H (Same.refl H))
    | lst _ _ _ _ => exact iteF (k H (Same.refl H))
    | dic _ => exact iteF (k H (Same.refl H))
theorem scTin : FnScope ["value", "low", "high"] ["value", "low", "high"] (defScope sTin) := ⟨rfl, rfl, rfl, by decide +kernel, rfl, by decide +kernel, by decide +kernel⟩
theorem ok_tin {f fW : Addr} {fd : FuncData} (F : Fun K "is_tuple_within" "is_tuple_within" sTin f fd) (T : MgP K mg fW) : FnOk P w K mg base CX0 1 f fd ["value", "low", "high"] spTin := by
  refine F.ok scTin (fun vs H Q E h => ?_) (fun cdv A outer s H vs Q E hr h => ?_)
  · obtain ⟨g, v, d, lo, hi, rfl, _⟩ := h
    rfl
  · obtain ⟨g, v, d, lo, hi, rfl, hd, k⟩ := h
    obtain ⟨t, ht, k1, k2, k3, k4⟩ := hd.ty (K := K)
    refine ⟨_, pss_one (ps_ret (pe_and (pe_callB call_isi (by rfl) T.isi (by decide +kernel) (pa_cons (pv 0) (pa_cons (pe_bltn (v := .ty "tuple") (by rfl) T.tpl boot_tuple rfl) pa_nil)))
      (pe_one (pe_chain op_le op_le (pv 1) (pe_callB call_len_seq (by rfl) T.len PySem.boot_len (pa_cons (pv 0) pa_nil)) (pv 2))))), ?_⟩
    refine ⟨_, rfl, _, _, _, _, _, rfl, .ty "tuple", ht, k2, _, rfl, ?_⟩
    cases hd with
    | @tup a xs ds e h r =>
      refine iteT ⟨_, rfl, _, rfl, a, xs, rfl, .inr (SqT.of e), _, _, rfl, rfl, _, rfl, ?_⟩
      have q := k H (Same.refl H)
      have e2 : lenIn lo hi (.tup ds) = (decide (lo ≤ (xs.length : Int)) && decide ((xs.length : Int) ≤ hi)) := by
        rw [r.len]
        rfl
      rw [e2] at q
      by_cases h1 : lo ≤ (xs.length : Int)
      · rw [decide_eq_true h1] at q ⊢
        exact iteT ⟨_, rfl, _, _, rfl, rfl, q⟩
      · rw [decide_eq_false h1] at q ⊢
        exact iteF q
    | int i => exact iteF (k H (Same.refl H))
    | bl b => exact iteF (k H (Same.refl H))
    | non => exact iteF (k H (Same.refl H))
    | str z => exact iteF (k H (Same.refl H))
    | lst _ _ _ _ => exact iteF (k H (Same.refl H))
    | dic _ => exact iteF (k H (Same.refl H))
end
end K67

set_option Elab.async false
set_option linter.all false
set_option pp.maxSteps 700
set_option maxRecDepth 100000
set_option maxHeartbeats 2000000
namespace K67
open PySem PySem.Spec PyProof.Rows L2
open TL (tl)
theorem freshF {H H1 : Hp} {o : Addr} {u : HO} (ho : H o = none) (e : upd H o u = H1) : Same H H1 ∧ H1 o = some u := by
  subst e
  exact ⟨same_new ho, upd_same⟩

theorem dpStrs {K : PySem.W.Frag} {H : Hp} : ∀ gs : List Str, DpAll K H (gs.map V.str) (gs.map PyData.str)
  | [] => .nil
  | x :: r => .cons (.str x) (dpStrs r)
theorem layStrs : ∀ gs : List Str, (∀ x ∈ gs, PyData.strOk x = true) → PyData.canLayAll0 (gs.map PyData.str) = true
  | [], _ => rfl
  | x :: r, h => by
    show (PyData.strOk x && PyData.canLayAll0 (r.map PyData.str)) = true
    rw [layStrs r fun y hy => h y (List.mem_cons_of_mem _ hy), h x List.mem_cons_self]
    rfl
theorem depStrs : ∀ gs : List Str, PyData.depthAll (gs.map PyData.str) = 0
  | [] => rfl
  | x :: r => by
    show max 0 (PyData.depthAll (r.map PyData.str)) = 0
    rw [depStrs r]
    rfl
theorem shStrs (gs : List Str) (h : ∀ x ∈ gs, PyData.strOk x = true) : SeqAt.shaped (.list (gs.map PyData.str)) = true := by
  unfold SeqAt.shaped
  show (PyData.canLayAll0 (gs.map PyData.str) && decide (PyData.depthAll (gs.map PyData.str) + 1 ≤ 64)) = true
  rw [layStrs gs h, depStrs]
  rfl
/-! ### data without lists -/
mutual
def pur : Dt → Bool
  | .tup l => purs l
  | .lst _ => false
  | .dic => false
  | .str s => PyData.strOk s
  | _ => true
def purs : List Dt → Bool
  | [] => true
  | d :: l => pur d && purs l
end
mutual
def dep : Dt → Nat
  | .tup l => deps l + 1
  | _ => 0
def deps : List Dt → Nat
  | [] => 0
  | d :: l => max (dep d) (deps l)
end
theorem deps_mem {l : List Dt} {d : Dt} : d ∈ l → dep d ≤ deps l := by
  induction l with
  | nil => intro h; cases h
  | cons x l ih =>
    intro h
    rcases List.mem_cons.mp h with rfl | h
    · exact Nat.le_max_left _ _
    · exact Nat.le_trans (ih h) (Nat.le_max_right _ _)
theorem deps_le {l : List Dt} {k : Nat} : (∀ d ∈ l, dep d ≤ k) → deps l ≤ k := by
  induction l with
  | nil => intro h; exact Nat.zero_le _
  | cons x l ih => exact fun h => Nat.max_le.mpr ⟨h x List.mem_cons_self, ih fun d hd => h d (List.mem_cons_of_mem _ hd)⟩
theorem purs_all {l : List Dt} : purs l = l.all pur := by
  induction l with
  | nil => rfl
  | cons x l ih => rw [List.all_cons, ← ih]; rfl
theorem purs_mem {l : List Dt} {d : Dt} (h : purs l = true) (m : d ∈ l) : pur d = true := by
  rw [purs_all] at h
  exact List.all_eq_true.mp h d m
/-- tuples stay -/
def Kt (H H' : Hp) : Prop := ∀ b xs, H b = some (.tup xs) → H' b = some (.tup xs)
theorem Kt.of {H H' : Hp} (s : Same H H') : Kt H H' := fun b xs e => s _ _ e
theorem Kt.put {H : Hp} {p : Addr} {o : HO} {l : List V} (h : H p = some (.lst l)) : Kt H (upd H p o) := fun b xs e => by
  rw [upd_ne (fun z => by rw [z, h] at e; cases e)]
  exact e
theorem Kt.kp {g d c : Addr} {H H' : Hp} {n : Nat} (S : StA H d g c n) (k : Kp d g H H') : Kt H H' := (Kv.kp S k).tup
mutual
theorem DV.keepP {g g' : Addr} {H H' : Hp} (k : Kt H H') : ∀ {v : V} {d : Dt}, pur d = true → DV g H v d → DV g' H' v d
  | _, _, _, .non => .non
  | _, _, _, .bl b => .bl b
  | _, _, _, .int i => .int i
  | _, _, _, .str h => .str h
  | _, _, p, .lst e n h r => by cases p
  | _, _, p, .tup e h r => .tup (k _ _ e) h (DVs.keepP k (by exact p) r)
  | _, _, p, .dic e => by cases p
theorem DVs.keepP {g g' : Addr} {H H' : Hp} (k : Kt H H') : ∀ {v : List V} {d : List Dt}, purs d = true → DVs g H v d → DVs g' H' v d
  | _, _, _, .nil => .nil
  | _, _, p, .cons h r => by
    have p : (pur _ && purs _) = true := p
    rw [Bool.and_eq_true] at p
    exact .cons (DV.keepP k p.1 h) (DVs.keepP k p.2 r)
end
theorem Kp.upF {d g p : Addr} {H H' : Hp} {o : HO} (k : Kp d g H H') (hp : H p = none) : Kp d g H (upd H' p o) := fun b u e h1 h2 => by
  rw [upd_ne (ne_of_none e hp)]
  exact k b u e h1 h2
theorem StA.upF {H : Hp} {d g c p : Addr} {n : Nat} {o : HO} (S : StA H d g c n) (h1 : p ≠ d) (h2 : p ≠ g) (h3 : p ≠ c) : StA (upd H p o) d g c n := by
  obtain ⟨r, tt, gs, cs, S⟩ := S
  exact ⟨r, tt, gs, cs, { S with dk := by rw [upd_ne h1.symm]; exact S.dk, gl := by rw [upd_ne h2.symm]; exact S.gl, cl := by rw [upd_ne h3.symm]; exact S.cl }⟩
theorem StA.free {H : Hp} {d g c : Addr} {n : Nat} (S : StA H d g c n) {p : Addr} (hp : H p = none) : p ≠ d ∧ p ≠ g ∧ p ≠ c := by
  obtain ⟨r, tt, gs, cs, S⟩ := S
  exact ⟨(ne_of_none S.dk hp).symm, (ne_of_none S.gl hp).symm, (ne_of_none S.cl hp).symm⟩
/-! ### values as data to be compared -/
mutual
def toPy : Dt → PyData
  | .non => .none
  | .bl b => .bool b
  | .int i => .int i
  | .str s => .str s
  | .lst l => .list (toPys l)
  | .tup l => .tuple (toPys l)
  | .dic => .dict []
def toPys : List Dt → List PyData
  | [] => []
  | d :: l => toPy d :: toPys l
end
theorem toPys_map {l : List Dt} : toPys l = l.map toPy := by
  induction l with
  | nil => rfl
  | cons x l ih => rw [List.map_cons, ← ih]; rfl
mutual
theorem dv_dp {K : PySem.W.Frag} {g : Addr} {H : Hp} : ∀ {v : V} {d : Dt}, pur d = true → DV g H v d → Dp K H v (toPy d)
  | _, _, _, .non => .non
  | _, _, _, .bl b => .bl b
  | _, _, _, .int i => .int i
  | _, _, _, .str h => .str _
  | _, _, p, .lst e n h r => by cases p
  | _, _, p, .tup e h r => .tup (SqT.of e) (dvs_dp (by exact p) r)
  | _, _, p, .dic e => by cases p
theorem dvs_dp {K : PySem.W.Frag} {g : Addr} {H : Hp} : ∀ {v : List V} {d : List Dt}, purs d = true → DVs g H v d → DpAll K H v (toPys d)
  | _, _, _, .nil => .nil
  | _, _, p, .cons h r => by
    have p : (pur _ && purs _) = true := p
    rw [Bool.and_eq_true] at p
    exact .cons (dv_dp p.1 h) (dvs_dp p.2 r)
end
mutual
theorem pur_lay : ∀ {d : Dt}, pur d = true → (toPy d).canLay0 = true ∧ (toPy d).depth = dep d
  | .non, _ => ⟨rfl, rfl⟩
  | .bl _, _ => ⟨rfl, rfl⟩
  | .int _, _ => ⟨rfl, rfl⟩
  | .str s, p => ⟨p, rfl⟩
  | .lst _, p => by cases p
  | .tup l, p => by
    obtain ⟨a, b⟩ := purs_lay (l := l) p
    refine ⟨a, ?_⟩
    show PyData.depthAll (toPys l) + 1 = deps l + 1
    rw [b]
  | .dic, p => by cases p
theorem purs_lay : ∀ {l : List Dt}, purs l = true → PyData.canLayAll0 (toPys l) = true ∧ PyData.depthAll (toPys l) = deps l
  | [], _ => ⟨rfl, rfl⟩
  | d :: l, p => by
    have p : (pur d && purs l) = true := p
    rw [Bool.and_eq_true] at p
    obtain ⟨a, b⟩ := pur_lay p.1
    obtain ⟨c, e⟩ := purs_lay p.2
    refine ⟨?_, ?_⟩
    · show ((toPy d).canLay0 && PyData.canLayAll0 (toPys l)) = true
      rw [a, c]
      rfl
    · show max (toPy d).depth (PyData.depthAll (toPys l)) = max (dep d) (deps l)
      rw [b, e]
end
theorem shaped_of {d : Dt} (p : pur d = true) (h : dep d ≤ 64) : SeqAt.shaped (toPy d) = true := by
  obtain ⟨a, b⟩ := pur_lay p
  unfold SeqAt.shaped
  rw [a, b, decide_eq_true h]
  rfl
theorem shaped_lst {l : List Dt} (p : purs l = true) (h : deps l ≤ 63) : SeqAt.shaped (.list (toPys l)) = true := by
  obtain ⟨a, b⟩ := purs_lay p
  unfold SeqAt.shaped
  show (PyData.canLayAll0 (toPys l) && decide (PyData.depthAll (toPys l) + 1 ≤ 64)) = true
  rw [a, b, decide_eq_true (by omega)]
  rfl
theorem eqv_self {d : Dt} (p : pur d = true) : PyData.eqv (toPy d) (toPy d) = true := PySem.SeqAt.eqv_refl _ (pur_lay p).1
theorem eqv_lst {l : List Dt} (p : purs l = true) : PyData.eqv (.list (toPys l)) (.list (toPys l)) = true := PySem.SeqAt.eqv_refl _ (purs_lay p).1
end K67

set_option Elab.async false
set_option linter.all false
set_option pp.maxSteps 900
set_option maxRecDepth 100000
set_option maxHeartbeats 4000000
namespace K67
open PySem PySem.Spec PyProof.Rows L2
open TL (tl)
/-- a def that keeps its promise, and where it stands -/
def ClX (CX : CXT) (P : Program) (w : World) (K : PySem.W.Frag) (mg : Str → Option Value) (base : Heap) (x : Str) (ps : List Str) (k : Nat) (sp : Sp) : Prop :=
  ∃ f fd, FnOk P w K mg base CX k f fd ps sp ∧ mg x = some (.ref f) ∧ PySem.W.keepIn K (.ref f) = true ∧ L2.Binds K fd ps []
abbrev Cl (P : Program) (w : World) (K : PySem.W.Frag) (mg : Str → Option Value) (base : Heap) (x : Str) (ps : List Str) (k : Nat) (sp : Sp) : Prop := ClX CX0 P w K mg base x ps k sp
/-- the built-in names -/
structure Bn (mg : Str → Option Value) : Prop where
  isi : mg "isinstance" = none
  len : mg "len" = none
  str : mg "str" = none
  int : mg "int" = none
  bol : mg "bool" = none
  tpl : mg "tuple" = none
  lst : mg "list" = none
  all : mg "all" = none
  rng : mg "range" = none
  min : mg "min" = none
  zip : mg "zip" = none
  enu : mg "enumerate" = none
section
variable {g : Addr} {H : Hp} {v : V}
theorem DV.str_inv {s : Str} (h : DV g H v (.str s)) : v = .str s ∧ s.length ≤ 10000 := by
  cases h with
  | str h => exact ⟨rfl, h⟩
theorem DV.int_inv {i : Int} (h : DV g H v (.int i)) : v = .int i := by
  cases h with
  | int i => rfl
theorem DV.tup_inv {l : List Dt} (h : DV g H v (.tup l)) : ∃ b xs, v = .ref b ∧ H b = some (.tup xs) ∧ l.length ≤ 20000 ∧ DVs g H xs l := by
  cases h with
  | tup e h r => exact ⟨_, _, rfl, e, h, r⟩
theorem DV.tup2 {x y : Dt} (h : DV g H v (.tup [x, y])) : ∃ b vx vy, v = .ref b ∧ H b = some (.tup [vx, vy]) ∧ DV g H vx x ∧ DV g H vy y := by
  obtain ⟨b, xs, rfl, e, _, r⟩ := h.tup_inv
  cases r with
  | cons hx r =>
    cases r with
    | cons hy r =>
      cases r
      exact ⟨b, _, _, rfl, e, hx, hy⟩
theorem DV.tup3 {x y z : Dt} (h : DV g H v (.tup [x, y, z])) : ∃ b vx vy vz, v = .ref b ∧ H b = some (.tup [vx, vy, vz]) ∧ DV g H vx x ∧ DV g H vy y ∧ DV g H vz z := by
  obtain ⟨b, xs, rfl, e, _, r⟩ := h.tup_inv
  cases r with
  | cons hx r =>
    cases r with
    | cons hy r =>
      cases r with
      | cons hz r =>
        cases r
        exact ⟨b, _, _, _, rfl, e, hx, hy, hz⟩
end
section
variable {K : PySem.W.Frag}
/-- [f(x) for x in a tuple], f a question -/
theorem lc_tupB {g : Addr} {a : Addr} {xs : List V} {ds : List Dt} {f : Dt → Bool} {te : TE} {i : Nat} {vs : List Nat} {σ : L2.St} {H1 : Hp} {Q : Addr → Hp → Prop} (r : DVs g H1 xs ds) (e : H1 a = some (.tup xs)) (hl : ds.length ≤ 20000)
    (hw : ∀ x, wipe (List.set (wipe σ vs) i (some x)) vs = wipe σ vs)
    (step : ∀ (x : V) (d : Dt) (H2 : Hp) (R : VK), d ∈ ds → DV g H2 x d → Same H1 H2 → (∀ H3, Same H2 H3 → R (.bl (f d)) H3) → te (List.set (wipe σ vs) i (some x)) H2 R)
    (fin : ∀ (D : Addr) (H2 : Hp), Same H1 H2 → H2 D = some (.lst (ds.map fun d => V.bl (f d))) → Q D H2) :
    ∀ (D : Addr), H1 D = none → ∃ W : Nat → Nat → Hp → Prop, (∃ m, W 0 m (upd H1 D (HO.lst []))) ∧ ∀ (i' m : Nat) (H : Hp), W i' m H →
      (Itt K a).stop i' H ∧ Q D H ∨ (Itt K a).go i' H ∧ ∃ Nx : Hp → Prop, (∀ H', Nx H' → ∃ m', m' < m ∧ W (i' + 1) m' H') ∧ ∀ (x : V) (H' : Hp), (Itt K a).yld i' H x H' →
        gName i x (wipe σ vs) H' fun σ2 H2 => wipe σ2 vs = wipe σ vs ∧ tYes σ2 H2 fun b H3 => if b = true then te σ2 H3 fun y H4 => ∃ acc, H4 D = some (HO.lst acc) ∧ acc.length < sizeLine ∧ Nx (upd H4 D (HO.lst (acc ++ [y]))) else Nx H3 := by
  intro D hD
  have hlen := r.len
  refine lc_it (walk_tup (K := K) (a := a) (xs := xs)) (fun i H' => H' D = some (.lst ((ds.take i).map fun d => V.bl (f d))) ∧ Same H1 H') ⟨upd_same, same_new hD⟩ (fun _ _ _ h => SqT.of (h.2 _ _ e)) ?_ ?_
  · rintro j x H2 H2' hj ⟨h4, s1⟩ ⟨rfl, hx⟩
    obtain ⟨d, hd, hx2⟩ := r.at_ hx
    refine ⟨hw x, ?_⟩
    refine step x d _ _ (List.mem_of_getElem? hd) (hx2.keep (Kv.of s1)) s1 fun H3 s3 => ?_
    refine ⟨_, s3 _ _ h4, ?_, ?_, ?_⟩
    · rw [List.length_map, List.length_take, sizeLine_eq]
      omega
    · rw [upd_same, List.take_succ, hd, List.map_append]
      rfl
    · intro b o eb
      rw [upd_ne (ne_of_none eb hD)]
      exact s3 _ _ (s1 _ _ eb)
  · rintro H2 ⟨h4, s1⟩
    rw [hlen, List.take_length] at h4
    exact fin D H2 s1 h4
theorem all_bl {l : List Bool} : l.all id = true ↔ ∀ b ∈ l, b = true := by simp [List.all_eq_true]
theorem all_map {ds : List Dt} {f : Dt → Bool} : ((ds.map f).all id) = ds.all f := by
  induction ds with
  | nil => rfl
  | cons d ds ih => rw [List.map_cons, List.all_cons, List.all_cons, ih] <;> rfl
theorem sql_bl {H : Hp} {D : Addr} {ds : List Dt} {f : Dt → Bool} (h : H D = some (.lst (ds.map fun d => V.bl (f d)))) : SqL K H D ((ds.map f).map V.bl) := SqL.of (by rw [List.map_map]; exact h)
end
def isLst : Dt → Bool
  | .lst _ => true
  | .tup _ => true
  | _ => false
theorem len1 {d : Dt} (h : lenIs 1 d = true) : ∃ p, d = .tup [p] := by
  cases d with
  | tup l =>
    have e : l.length = 1 := of_decide_eq_true h
    match l, e with
    | [p], _ => exact ⟨p, rfl⟩
  | _ => cases h
theorem len2 {d : Dt} (h : lenIs 2 d = true) : ∃ p q, d = .tup [p, q] := by
  cases d with
  | tup l =>
    have e : l.length = 2 := of_decide_eq_true h
    match l, e with
    | [p, q], _ => exact ⟨p, q, rfl⟩
  | _ => cases h
theorem DV.tyL {K : PySem.W.Frag} {g : Addr} {H : Hp} {v : V} {d : Dt} (h : DV g H v d) : ∃ t, TyX K H v t ∧ PySem.W.kitAny K t [.type "list", .type "tuple"] = some (isLst d) := by
  have go : ∀ {t : Value} {a b : Bool}, PySem.W.kitOne K t (.type "list") = some a → PySem.W.kitOne K t (.type "tuple") = some b → PySem.W.kitAny K t [.type "list", .type "tuple"] = some (a || b) := by
    intro t a b h1 h2
    unfold PySem.W.kitAny
    rw [h1]
    cases a with
    | true => rfl
    | false =>
      show PySem.W.kitAny K t [.type "tuple"] = _
      unfold PySem.W.kitAny
      rw [h2]
      cases b <;> rfl
  cases h with
  | non => exact ⟨_, .base .non, go (kit_ty (show kitB "NoneType" "list" = some false by decide +kernel)) (kit_ty (show kitB "NoneType" "tuple" = some false by decide +kernel))⟩
  | bl b => exact ⟨_, .base (.bl _), go (kit_ty (show kitB "bool" "list" = some false by decide +kernel)) (kit_ty (show kitB "bool" "tuple" = some false by decide +kernel))⟩
  | int i => exact ⟨_, .base (.int _), go (kit_ty (show kitB "int" "list" = some false by decide +kernel)) (kit_ty (show kitB "int" "tuple" = some false by decide +kernel))⟩
  | str h => exact ⟨_, .base (.str _), go (kit_ty (show kitB "str" "list" = some false by decide +kernel)) (kit_ty (show kitB "str" "tuple" = some false by decide +kernel))⟩
  | lst e n h r => exact ⟨_, .base (.lst e), go (kit_ty (show kitB "list" "list" = some true by decide +kernel)) (kit_ty (show kitB "list" "tuple" = some false by decide +kernel))⟩
  | tup e h r => exact ⟨_, .base (.tup e), go (kit_ty (show kitB "tuple" "list" = some false by decide +kernel)) (kit_ty (show kitB "tuple" "tuple" = some true by decide +kernel))⟩
  | dic e => exact ⟨_, .base (.dK e), go (kit_ty (show kitB "dict" "list" = some false by decide +kernel)) (kit_ty (show kitB "dict" "tuple" = some false by decide +kernel))⟩
section
variable {P : Program} {w : World} {K : PySem.W.Frag} {mg : Str → Option Value} {base : Heap}
end
end K67

set_option Elab.async false
set_option linter.all false
set_option pp.maxSteps 900
set_option maxRecDepth 100000
set_option maxHeartbeats 4000000
namespace K67
open PySem PySem.Spec PyProof.Rows L2
open TL (tl)
abbrev sWeb : Stmt := top 20
abbrev sHd : Stmt := top 21
abbrev sEd : Stmt := top 22
abbrev sNeed : Stmt := top 23
def rLenQ (K : PySem.W.Frag) : List V → Hp → VK → Prop := fun xs H Q => ∃ p ys, xs = [.ref p] ∧ (SqL K H p ys ∨ SqT K H p ys) ∧ Q (.int (ys.length : Nat)) H
/-! ### webs, judged -/
def posI : Dt → Bool
  | .int i => decide (1 ≤ i)
  | _ => false
def headB : Dt → Bool
  | .tup [a, b] => posI a && isTup b
  | _ => false
def callB (nets : Int) : Dt → Bool
  | .non => true
  | d => intIn 0 (nets - 1) d
def toldB (labels : Int) : Dt → Bool
  | .tup ks => decide (ks.length ≤ 8) && ks.all (intIn 0 (labels - 1))
  | _ => false
def edgeB (places nets labels : Int) : Dt → Bool
  | .tup [p, t, c, b, l] => (intIn 0 (places - 2) p && intIn 0 (places - 1) t) && ((callB nets c && intIn (-1000000000) 1000000000 b) && toldB labels l)
  | _ => false
def spEd : Sp := fun vs H Q _ => ∃ (g : Addr) (v : V) (d : Dt) (places nets labels : Int), vs = [v, .int places, .int nets, .int labels] ∧ DV g H v d ∧ ∀ H', Same H H' → Q (.bl (edgeB places nets labels d)) H'
theorem len5 {d : Dt} (h : lenIs 5 d = true) : ∃ p q r s t, d = .tup [p, q, r, s, t] := by
  cases d with
  | tup l =>
    match l, h with
    | [p, q, r, s, t], _ => exact ⟨p, q, r, s, t, rfl⟩
    | [], h | [_], h | [_, _], h | [_, _, _], h | [_, _, _, _], h | _ :: _ :: _ :: _ :: _ :: _ :: _, h => simp [lenIs] at h
  | _ => cases h
theorem edge_no {p n l : Int} {d : Dt} (h : lenIs 5 d = false) : edgeB p n l d = false := by
  cases d with
  | tup xs =>
    match xs, h with
    | [_, _, _, _, _], h => cases h
    | [], _ | [_], _ | [_, _], _ | [_, _, _], _ | [_, _, _, _], _ | _ :: _ :: _ :: _ :: _ :: _ :: _, _ => rfl
  | _ => rfl
theorem head_no {d : Dt} (h : lenIs 2 d = false) : headB d = false := by
  cases d with
  | tup xs =>
    match xs, h with
    | [_, _], h => cases h
    | [], _ | [_], _ | _ :: _ :: _ :: _, _ => rfl
  | _ => rfl
section
variable {g : Addr} {H : Hp} {v : V}
theorem DV.tup5 {p q r s t : Dt} (h : DV g H v (.tup [p, q, r, s, t])) : ∃ b vp vq vr vs vt, v = .ref b ∧ H b = some (.tup [vp, vq, vr, vs, vt]) ∧ DV g H vp p ∧ DV g H vq q ∧ DV g H vr r ∧ DV g H vs s ∧ DV g H vt t := by
  obtain ⟨b, xs, rfl, e, _, h1⟩ := h.tup_inv
  cases h1 with
  | cons hp r =>
  cases r with
  | cons hq r =>
  cases r with
  | cons hr r =>
  cases r with
  | cons hs r =>
  cases r with
  | cons ht r =>
  cases r
  exact ⟨b, _, _, _, _, _, rfl, e, hp, hq, hr, hs, ht⟩
end
section
variable {P : Program} {w : World} {K : PySem.W.Frag} {mg : Str → Option Value} {base : Heap}
theorem scHd : FnScope ["value"] ["value"] (defScope sHd) := ⟨rfl, rfl, rfl, by decide +kernel, rfl, by decide +kernel, by decide +kernel⟩
theorem ok_hd {f : Addr} {fd : FuncData} (F : Fun K "_is_head" "_is_head" sHd f fd) (T : Bn mg) (cTof : Cl P w K mg base "is_tuple_of" ["value", "many"] 1 spTof) (cWhl : Cl P w K mg base "is_whole" ["value"] 1 (spAsk isInt)) : FnOk P w K mg base CX0 2 f fd ["value"] (spAsk headB) := by
  obtain ⟨fTof, fdTof, GTof, mTof, kTof, bTof⟩ := cTof
  obtain ⟨fWhl, fdWhl, GWhl, mWhl, kWhl, bWhl⟩ := cWhl
  refine F.ok scHd (fun vs H Q E h => ?_) (fun cdv A outer s H vs Q E hr h => ?_)
  · obtain ⟨g, v, d, rfl, _⟩ := h
    rfl
  · obtain ⟨g, v, d, rfl, hd, k⟩ := h
    refine ⟨_, (pss_one (ps_ret (pe_and (pe_call GTof hr (by rfl) mTof kTof bTof .nil pass0 (pa_cons (pv 0) (pa_cons pe_int pa_nil))) (pe_and (pe_call GWhl hr (by rfl) mWhl kWhl bWhl .nil pass0 (pa_cons (pe_ix ix_tup (pv 0) pe_int (fun _ _ => rfl)) pa_nil)) (pe_and (pe_cmpR op_ge (pe_ix ix_tup (pv 0) pe_int (fun _ _ => rfl)) pe_int (nomark _)) (pe_one (pe_callB call_isi (by rfl) T.isi (by decide +kernel) (pa_cons (pe_ix ix_tup (pv 0) pe_int (fun _ _ => rfl)) (pa_cons (pe_bltn (v := .ty "tuple") (by rfl) T.tpl boot_tuple rfl) pa_nil))))))))), ?_⟩
    refine ⟨_, rfl, g, v, d, 2, rfl, hd, fun H1 s1 => ⟨_, rfl, ?_⟩⟩
    cases h2 : lenIs 2 d with
    | false =>
      refine ifF rfl ?_
      have := k H1 s1
      rw [head_no h2] at this
      exact this
    | true =>
      refine ifT rfl ?_
      obtain ⟨x, y, rfl⟩ := len2 h2
      have hd1 := hd.keep (Kv.of s1)
      obtain ⟨b, vx, vy, rfl, eb, hx, hy⟩ := hd1.tup2
      refine ⟨_, rfl, b, _, 0, _, rfl, rfl, SqT.of eb, atI_nat (j := 0) rfl, g, vx, x, rfl, hx, fun H2 s2 => ⟨_, rfl, ?_⟩⟩
      have hy2 := hy.keep (Kv.of s2)
      have eb2 := s2 _ _ eb
      have s12 := s1.trans s2
      cases x with
      | int i =>
        obtain rfl := hx.int_inv
        refine ifT rfl ?_
        refine ⟨_, rfl, b, _, 0, _, rfl, rfl, SqT.of eb2, atI_nat (j := 0) rfl, _, _, rfl, rfl, _, rfl, ?_⟩
        have e0 : headB (.tup [.int i, y]) = (decide (1 ≤ i) && isTup y) := rfl
        rw [e0] at k
        cases h1 : decide (1 ≤ i) with
        | false =>
          rw [h1] at k
          exact ifF rfl (k H2 s12)
        | true =>
          rw [h1] at k
          refine ifT rfl ?_
          obtain ⟨t, ht, q1, q2, q3, q4⟩ := hy2.ty (K := K)
          exact ⟨_, rfl, b, _, 1, _, rfl, rfl, SqT.of eb2, atI_nat (j := 1) rfl, _, _, _, _, _, rfl, .ty "tuple", ht, q2, k H2 s12⟩
      | _ =>
        refine ifF rfl ?_
        exact k H2 s12
theorem scEd : FnScope ["value", "places", "nets", "labels", "place", "to", "call", "beats", "told", "k"] ["value", "places", "nets", "labels"] (defScope sEd) := ⟨rfl, rfl, rfl, by decide +kernel, rfl, by decide +kernel, by decide +kernel⟩
theorem ok_ed {f : Addr} {fd : FuncData} (F : Fun K "_is_edge" "_is_edge" sEd f fd) (T : Bn mg) (cTof : Cl P w K mg base "is_tuple_of" ["value", "many"] 1 spTof) (cTin : Cl P w K mg base "is_tuple_within" ["value", "low", "high"] 1 spTin)
    (cWin : Cl P w K mg base "is_within" ["value", "low", "high"] 2 spWin) (gB : ∃ t, mg "MOST_BEATS" = some (.int 1000000000 t)) (gE : ∃ t, mg "MOST_EDGE_LABELS" = some (.int 8 t)) : FnOk P w K mg base CX0 3 f fd ["value", "places", "nets", "labels"] spEd := by
  obtain ⟨fTof, fdTof, GTof, mTof, kTof, bTof⟩ := cTof
  obtain ⟨fTin, fdTin, GTin, mTin, kTin, bTin⟩ := cTin
  obtain ⟨fWin, fdWin, GWin, mWin, kWin, bWin⟩ := cWin
  obtain ⟨tB, eB⟩ := gB
  obtain ⟨tE, eE⟩ := gE
  refine F.ok scEd (fun vs H Q E h => ?_) (fun cdv A outer s H vs Q E hr h => ?_)
  · obtain ⟨g, v, d, p, n, l, rfl, _⟩ := h
    rfl
  · obtain ⟨g, v, d, pl, nt, lb, rfl, hd, k⟩ := h
    have hr1 : Room 1 _ := hr.mono (by decide)
    refine ⟨_, (pss_cons (ps_if (pt_not (pt_val (pe_call GTof hr1 (by rfl) mTof kTof bTof .nil pass0 (pa_cons (pv 0) (pa_cons pe_int pa_nil))))) (pss_one (ps_ret pe_bl)) pss_nil)
      (pss_cons (ps_asg (pv 0) (pg_tup (by rfl) (pgs_cons (pg_name (i := 4) scEd.nd rfl (Or.inl rfl)) (pgs_cons (pg_name (i := 5) scEd.nd rfl (Or.inl rfl)) (pgs_cons (pg_name (i := 6) scEd.nd rfl (Or.inl rfl)) (pgs_cons (pg_name (i := 7) scEd.nd rfl (Or.inl rfl)) (pgs_cons (pg_name (i := 8) scEd.nd rfl (Or.inl rfl)) pgs_nil)))))))
      (pss_cons (ps_if (PW.pt (pw_or (pt_not (pt_val (pe_call GWin hr (by rfl) mWin kWin bWin .nil pass0 (pa_cons (pv 4) (pa_cons pe_int (pa_cons (pe_op op_sub (pv 1) pe_int) pa_nil)))))) (pw_or1 (pt_not (pt_val (pe_call GWin hr (by rfl) mWin kWin bWin .nil pass0 (pa_cons (pv 5) (pa_cons pe_int (pa_cons (pe_op op_sub (pv 1) pe_int) pa_nil))))))))) (pss_one (ps_ret pe_bl)) pss_nil)
      (pss_cons (ps_if (PW.pt (pw_or (PW.pt (pw_and (pt_cmpR op_notN (pv 6) pe_non (nomark _)) (pw_and1 (pt_not (pt_val (pe_call GWin hr (by rfl) mWin kWin bWin .nil pass0 (pa_cons (pv 6) (pa_cons pe_int (pa_cons (pe_op op_sub (pv 2) pe_int) pa_nil))))))))) (pw_or1 (pt_not (pt_val (pe_call GWin hr (by rfl) mWin kWin bWin .nil pass0 (pa_cons (pv 7) (pa_cons (pe_un un_neg (pe_glob (v := .int 1000000000) (by rfl) eB ⟨_, rfl⟩)) (pa_cons (pe_glob (v := .int 1000000000) (by rfl) eB ⟨_, rfl⟩) pa_nil))))))))) (pss_one (ps_ret pe_bl)) pss_nil)
      (pss_one (ps_ret (pe_and (pe_call GTin hr1 (by rfl) mTin kTin bTin .nil pass0 (pa_cons (pv 8) (pa_cons pe_int (pa_cons (pe_glob (v := .int 8) (by rfl) eE ⟨_, rfl⟩) pa_nil)))) (pe_one (pe_callB (cr_all rfl) (by rfl) T.all (by decide +kernel) (pa_cons (pe_lc (own := [("k", 9)]) (g := gName 9) (tt := tYes) (by rfl) scEd.nd (pi_tup (pv 8)) (blkOk_by (own := [("k", 9)]) (N := ["value", "places", "nets", "labels", "place", "to", "call", "beats", "told", "k"]) (sc := defScope sEd) (by decide +kernel)) (fun _ _ _ _ _ => (pg_name (i := 9) scEd.nd rfl (Or.inl rfl))) (fun _ _ _ _ _ => pts_nil) (fun _ _ _ _ _ => (pe_call GWin hr (by rfl) mWin kWin bWin .nil pass0 (pa_cons (pv 9) (pa_cons pe_int (pa_cons (pe_op op_sub (pv 3) pe_int) pa_nil)))))) pa_nil)))))))))), ?_⟩
    refine ⟨_, rfl, g, v, d, 5, rfl, hd, fun H1 s1 => ⟨_, rfl, ?_⟩⟩
    cases h5 : lenIs 5 d with
    | false =>
      rw [edge_no h5] at k
      exact iteT (k H1 s1)
    | true =>
      obtain ⟨p, t, c, b, l, rfl⟩ := len5 h5
      obtain ⟨a, vp, vt, vc, vb, vl, rfl, ea, hp, ht, hc, hb, hl⟩ := (hd.keep (Kv.of s1)).tup5
      refine iteF ⟨_, rfl, a, _, rfl, SqT.of ea, rfl, _, _, rfl, _, _, rfl, _, _, rfl, _, _, rfl, _, _, rfl, rfl, ?_⟩
      have e0 : edgeB pl nt lb (.tup [p, t, c, b, l]) = ((intIn 0 (pl - 2) p && intIn 0 (pl - 1) t) && ((callB nt c && intIn (-1000000000) 1000000000 b) && toldB lb l)) := rfl
      rw [e0] at k
      refine ⟨_, rfl, _, rfl, _, _, rfl, rfl, g, vp, p, 0, _, rfl, hp, fun H2 s2 => ⟨_, rfl, ?_⟩⟩
      have s12 := s1.trans s2
      cases n1 : intIn 0 (pl - 2) p with
      | false =>
        rw [n1] at k
        exact iteT (k H2 s12)
      | true =>
      rw [n1] at k
      refine iteF ?_
      refine ⟨_, rfl, _, rfl, _, _, rfl, rfl, g, vt, t, 0, _, rfl, ht.keep (Kv.of s2), fun H3 s3 => ⟨_, rfl, ?_⟩⟩
      have s13 := s12.trans s3
      have s23 := s2.trans s3
      cases n2 : intIn 0 (pl - 1) t with
      | false =>
        rw [n2] at k
        exact iteT (k H3 s13)
      | true =>
      rw [n2] at k
      refine iteF ?_
      have hc3 := hc.keep (Kv.of s23)
      have hb3 := hb.keep (Kv.of s23)
      have hl3 := hl.keep (Kv.of s23)
      by_cases hn : vc = V.non
      · subst hn
        cases hc3
        refine ⟨_, rfl, rfl, _, rfl, ifF rfl ?_⟩
        refine ⟨_, rfl, _, rfl, g, vb, b, -1000000000, 1000000000, rfl, hb3, fun H5 s5 => ⟨_, rfl, ?_⟩⟩
        have s15 := s13.trans s5
        cases n4 : intIn (-1000000000) 1000000000 b with
        | false =>
          rw [n4] at k
          exact iteT (k H5 s15)
        | true =>
          rw [n4] at k
          refine iteF ?_
          refine ⟨_, rfl, g, vl, l, 0, 8, rfl, hl3.keep (Kv.of s5), fun H6 s6 => ⟨_, rfl, ?_⟩⟩
          have s16 := s15.trans s6
          have hl6 := (hl3.keep (Kv.of s5)).keep (Kv.of s6)
          have k' : ∀ H', Same H H' → Q (.bl (toldB lb l)) H' := k
          cases l with
          | tup ks =>
            have e1 : lenIn 0 8 (.tup ks) = decide (ks.length ≤ 8) := by
              show (decide ((0 : Int) ≤ (ks.length : Int)) && decide ((ks.length : Int) ≤ 8)) = _
              rw [decide_eq_true (show (0 : Int) ≤ (ks.length : Int) by omega), Bool.true_and, decide_eq_decide]
              omega
            have e2 : toldB lb (.tup ks) = (decide (ks.length ≤ 8) && ks.all (intIn 0 (lb - 1))) := rfl
            rw [e2] at k'
            rw [e1]
            cases n5 : decide (ks.length ≤ 8) with
            | false =>
              rw [n5] at k'
              exact iteF (k' H6 s16)
            | true =>
              rw [n5] at k'
              obtain ⟨al, xs, rfl, eal, hxl, rr⟩ := hl6.tup_inv
              refine iteT ⟨_, rfl, al, rfl, ⟨_, SqT.of eal⟩, ?_⟩
              refine lc_tupB (K := K) (f := intIn 0 (lb - 1)) (i := 9) (vs := [9]) rr eal hxl ?_ ?_ ?_
              · exact fun x => rfl
              · intro x d H2' R hm hx s2 hR
                exact ⟨_, rfl, _, rfl, _, _, rfl, rfl, g, x, d, 0, _, rfl, hx, hR⟩
              · intro D H7 s7 hD
                refine ⟨D, ks.map (intIn 0 (lb - 1)), rfl, sql_bl hD, ?_⟩
                rw [all_map]
                exact k' H7 (s16.trans s7)
          | _ => exact iteF (k' H6 s16)
      · have hcB : callB nt c = intIn 0 (nt - 1) c := by
          cases hc3 with
          | non => exact absurd rfl hn
          | _ => rfl
        rw [hcB] at k
        refine ⟨_, rfl, rfl, _, rfl, ifT (by rw [decide_eq_false hn]; rfl) ?_⟩
        refine ⟨_, rfl, _, rfl, _, _, rfl, rfl, g, vc, c, 0, _, rfl, hc3, fun H4 s4 => ⟨_, rfl, ?_⟩⟩
        have s14 := s13.trans s4
        have hb4 := hb3.keep (Kv.of s4)
        have hl4 := hl3.keep (Kv.of s4)
        cases n3 : intIn 0 (nt - 1) c with
        | false =>
          rw [n3] at k
          exact iteT (k H4 s14)
        | true =>
        rw [n3] at k
        refine iteF ?_
        refine ⟨_, rfl, _, rfl, g, vb, b, -1000000000, 1000000000, rfl, hb4, fun H5 s5 => ⟨_, rfl, ?_⟩⟩
        have s15 := s14.trans s5
        cases n4 : intIn (-1000000000) 1000000000 b with
        | false =>
          rw [n4] at k
          exact iteT (k H5 s15)
        | true =>
          rw [n4] at k
          refine iteF ?_
          refine ⟨_, rfl, g, vl, l, 0, 8, rfl, hl4.keep (Kv.of s5), fun H6 s6 => ⟨_, rfl, ?_⟩⟩
          have s16 := s15.trans s6
          have hl6 := (hl4.keep (Kv.of s5)).keep (Kv.of s6)
          have k' : ∀ H', Same H H' → Q (.bl (toldB lb l)) H' := k
          cases l with
          | tup ks =>
            have e1 : lenIn 0 8 (.tup ks) = decide (ks.length ≤ 8) := by
              show (decide ((0 : Int) ≤ (ks.length : Int)) && decide ((ks.length : Int) ≤ 8)) = _
              rw [decide_eq_true (show (0 : Int) ≤ (ks.length : Int) by omega), Bool.true_and, decide_eq_decide]
              omega
            have e2 : toldB lb (.tup ks) = (decide (ks.length ≤ 8) && ks.all (intIn 0 (lb - 1))) := rfl
            rw [e2] at k'
            rw [e1]
            cases n5 : decide (ks.length ≤ 8) with
            | false =>
              rw [n5] at k'
              exact iteF (k' H6 s16)
            | true =>
              rw [n5] at k'
              obtain ⟨al, xs, rfl, eal, hxl, rr⟩ := hl6.tup_inv
              refine iteT ⟨_, rfl, al, rfl, ⟨_, SqT.of eal⟩, ?_⟩
              refine lc_tupB (K := K) (f := intIn 0 (lb - 1)) (i := 9) (vs := [9]) rr eal hxl ?_ ?_ ?_
              · exact fun x => rfl
              · intro x d H2' R hm hx s2 hR
                exact ⟨_, rfl, _, rfl, _, _, rfl, rfl, g, x, d, 0, _, rfl, hx, hR⟩
              · intro D H7 s7 hD
                refine ⟨D, ks.map (intIn 0 (lb - 1)), rfl, sql_bl hD, ?_⟩
                rw [all_map]
                exact k' H7 (s16.trans s7)
          | _ => exact iteF (k' H6 s16)
end
end K67

set_option Elab.async false
set_option linter.all false
set_option pp.maxSteps 900
set_option maxRecDepth 100000
set_option maxHeartbeats 4000000
namespace K67
open PySem PySem.Spec PyProof.Rows L2
open TL (tl)
/-! ### comprehensions over a tuple -/
theorem lc_tupG {K : PySem.W.Frag} {g : Addr} {a : Addr} {xs : List V} {ds : List Dt} {f : Dt → V} {te : TE} {i : Nat} {vs : List Nat} {σ : L2.St} {H1 : Hp} {Q : Addr → Hp → Prop} (r : DVs g H1 xs ds) (e : H1 a = some (.tup xs)) (hl : ds.length ≤ 20000)
    (hw : ∀ x, wipe (List.set (wipe σ vs) i (some x)) vs = wipe σ vs)
    (step : ∀ (x : V) (d : Dt) (H2 : Hp) (R : VK), d ∈ ds → DV g H2 x d → Same H1 H2 → (∀ H3, Same H2 H3 → R (f d) H3) → te (List.set (wipe σ vs) i (some x)) H2 R)
    (fin : ∀ (D : Addr) (H2 : Hp), Same H1 H2 → H1 D = none → H2 D = some (.lst (ds.map f)) → Q D H2) :
    ∀ (D : Addr), H1 D = none → ∃ W : Nat → Nat → Hp → Prop, (∃ m, W 0 m (upd H1 D (HO.lst []))) ∧ ∀ (i' m : Nat) (H : Hp), W i' m H →
      (Itt K a).stop i' H ∧ Q D H ∨ (Itt K a).go i' H ∧ ∃ Nx : Hp → Prop, (∀ H', Nx H' → ∃ m', m' < m ∧ W (i' + 1) m' H') ∧ ∀ (x : V) (H' : Hp), (Itt K a).yld i' H x H' →
        gName i x (wipe σ vs) H' fun σ2 H2 => wipe σ2 vs = wipe σ vs ∧ tYes σ2 H2 fun b H3 => if b = true then te σ2 H3 fun y H4 => ∃ acc, H4 D = some (HO.lst acc) ∧ acc.length < sizeLine ∧ Nx (upd H4 D (HO.lst (acc ++ [y]))) else Nx H3 := by
  intro D hD
  have hlen := r.len
  refine lc_it (walk_tup (K := K) (a := a) (xs := xs)) (fun i H' => H' D = some (.lst ((ds.take i).map f)) ∧ Same H1 H') ⟨upd_same, same_new hD⟩ (fun _ _ _ h => SqT.of (h.2 _ _ e)) ?_ ?_
  · rintro j x H2 H2' hj ⟨h4, s1⟩ ⟨rfl, hx⟩
    obtain ⟨d, hd, hx2⟩ := r.at_ hx
    refine ⟨hw x, ?_⟩
    refine step x d _ _ (List.mem_of_getElem? hd) (hx2.keep (Kv.of s1)) s1 fun H3 s3 => ?_
    refine ⟨_, s3 _ _ h4, ?_, ?_, ?_⟩
    · rw [List.length_map, List.length_take, sizeLine_eq]
      omega
    · rw [upd_same, List.take_succ, hd, List.map_append]
      rfl
    · intro b o eb
      rw [upd_ne (ne_of_none eb hD)]
      exact s3 _ _ (s1 _ _ eb)
  · rintro H2 ⟨h4, s1⟩
    rw [hlen, List.take_length] at h4
    exact fin D H2 s1 hD h4
theorem it_gen {J : It} {n : Nat} {G : Hp → Prop} {Y : Nat → Hp → V → Hp → Prop} (w : Walk J n G Y) {Body : V → Hp → (Hp → Prop) → Prop} {H0 : Hp} {Qd : Hp → Prop} (Pv : Nat → Hp → Prop) (h0 : Pv 0 H0) (hG : ∀ i H, i ≤ n → Pv i H → G H)
    (hs : ∀ i x H H', i < n → Pv i H → Y i H x H' → Body x H' (Pv (i + 1))) (hd : ∀ H, Pv n H → Qd H) :
    ∃ W : Nat → Nat → Hp → Prop, (∃ m, W 0 m H0) ∧ ∀ i m H, W i m H →
      (J.stop i H ∧ Qd H) ∨ (J.go i H ∧ ∃ Nx : Hp → Prop, (∀ H', Nx H' → ∃ m', m' < m ∧ W (i + 1) m' H') ∧ ∀ x H', J.yld i H x H' → Body x H' Nx) := by
  refine ⟨fun i m H => m = n - i ∧ i ≤ n ∧ Pv i H, ⟨n, by simp, Nat.zero_le _, h0⟩, ?_⟩
  rintro i m H ⟨rfl, hi, p⟩
  have q := hG i H hi p
  by_cases hlt : i < n
  · exact .inr ⟨w.goes i H hlt q, Pv (i + 1), fun H' p' => ⟨n - (i + 1), by omega, rfl, hlt, p'⟩, fun x H' y => hs i x H H' hlt p (w.yields i H x H' hlt q y)⟩
  · have e : i = n := by omega
    subst e
    exact .inl ⟨w.stops H q, hd H p⟩
/-! ### a whole web, judged -/
def net0 : Dt → Int
  | .tup [.int i, _] => i
  | _ => 0
def netEs : Dt → List Dt
  | .tup [_, .tup es] => es
  | _ => []
def intOf : Dt → Int
  | .int i => i
  | _ => 0
def netsB (lb : Int) : Dt → Bool
  | .tup ns => (lenIn 1 400 (.tup ns) && ns.all headB) && ((decide ((ns.map net0).sum ≤ 4000) && decide ((ns.map fun n => ((netEs n).length : Int)).sum ≤ 8000)) && ns.all fun n => (netEs n).all (edgeB (net0 n) ns.length lb))
  | _ => false
def webB : Dt → Bool
  | .tup [a, b] => intIn 0 4000 a && netsB (intOf a) b
  | _ => false
theorem web_no {d : Dt} (h : lenIs 2 d = false) : webB d = false := by
  cases d with
  | tup xs =>
    match xs, h with
    | [_, _], h => cases h
    | [], _ | [_], _ | _ :: _ :: _ :: _, _ => rfl
  | _ => rfl
theorem head_of {d : Dt} (h : headB d = true) : ∃ i es, d = .tup [.int i, .tup es] ∧ 1 ≤ i := by
  cases d with
  | tup xs =>
    match xs, h with
    | [a, b], h =>
      have h : (posI a && isTup b) = true := h
      rw [Bool.and_eq_true] at h
      obtain ⟨h1, h2⟩ := h
      cases a with
      | int i =>
        cases b with
        | tup es => exact ⟨i, es, rfl, of_decide_eq_true h1⟩
        | _ => cases h2
      | _ => cases h1
    | [], h | [_], h | _ :: _ :: _ :: _, h => cases h
  | _ => cases h
section
variable {P : Program} {w : World} {K : PySem.W.Frag} {mg : Str → Option Value} {base : Heap}
theorem scWeb : FnScope ["value", "labels", "nets", "net", "edge"] ["value"] (defScope sWeb) := ⟨rfl, rfl, rfl, by decide +kernel, rfl, by decide +kernel, by decide +kernel⟩
theorem ok_web {f : Addr} {fd : FuncData} (F : Fun K "is_web" "is_web" sWeb f fd) (T : Bn mg) (hsum : mg "sum" = none) (cTof : Cl P w K mg base "is_tuple_of" ["value", "many"] 1 spTof) (cTin : Cl P w K mg base "is_tuple_within" ["value", "low", "high"] 1 spTin)
    (cWin : Cl P w K mg base "is_within" ["value", "low", "high"] 2 spWin) (cHd : Cl P w K mg base "_is_head" ["value"] 2 (spAsk headB)) (cEd : Cl P w K mg base "_is_edge" ["value", "places", "nets", "labels"] 3 spEd)
    (gL : ∃ t, mg "MOST_LABELS" = some (.int 4000 t)) (gN : ∃ t, mg "MOST_NETS" = some (.int 400 t)) (gP : ∃ t, mg "MOST_PLACES" = some (.int 4000 t)) (gE : ∃ t, mg "MOST_EDGES" = some (.int 8000 t)) :
    FnOk P w K mg base CX0 4 f fd ["value"] (spAsk webB) := by
  obtain ⟨fTof, fdTof, GTof, mTof, kTof, bTof⟩ := cTof
  obtain ⟨fTin, fdTin, GTin, mTin, kTin, bTin⟩ := cTin
  obtain ⟨fWin, fdWin, GWin, mWin, kWin, bWin⟩ := cWin
  obtain ⟨fHd, fdHd, GHd, mHd, kHd, bHd⟩ := cHd
  obtain ⟨fEd, fdEd, GEd, mEd, kEd, bEd⟩ := cEd
  obtain ⟨tL, eL⟩ := gL
  obtain ⟨tN, eN⟩ := gN
  obtain ⟨tP, eP⟩ := gP
  obtain ⟨tE, eE⟩ := gE
  refine F.ok scWeb (fun vs H Q E h => ?_) (fun cdv A outer s H vs Q E hr h => ?_)
  · obtain ⟨g, v, d, rfl, _⟩ := h
    rfl
  · obtain ⟨g, v, d, rfl, hd, k⟩ := h
    have hr1 : Room 1 _ := hr.mono (by decide)
    have hr2 : Room 2 _ := hr.mono (by decide)
    refine ⟨_, (pss_cons (ps_if (PW.pt (pw_or (pt_not (pt_val (pe_call GTof hr1 (by rfl) mTof kTof bTof .nil pass0 (pa_cons (pv 0) (pa_cons pe_int pa_nil))))) (pw_or1 (pt_not (pt_val (pe_call GWin hr2 (by rfl) mWin kWin bWin .nil pass0 (pa_cons (pe_ix ix_tup (pv 0) pe_int (fun _ _ => rfl)) (pa_cons pe_int (pa_cons (pe_glob (v := .int 4000) (by rfl) eL ⟨_, rfl⟩) pa_nil))))))))) (pss_one (ps_ret pe_bl)) pss_nil)
      (pss_cons (ps_asg (pv 0) (pg_tup (by rfl) (pgs_cons (pg_name (i := 1) scWeb.nd rfl (Or.inr rfl)) (pgs_cons (pg_name (i := 2) scWeb.nd rfl (Or.inr rfl)) pgs_nil))))
      (pss_cons (ps_if (PW.pt (pw_or (pt_not (pt_val (pe_call GTin hr1 (by rfl) mTin kTin bTin .nil pass0 (pa_cons (pv 2) (pa_cons pe_int (pa_cons (pe_glob (v := .int 400) (by rfl) eN ⟨_, rfl⟩) pa_nil)))))) (pw_or1 (pt_not (pt_val (pe_callB (cr_all rfl) (by rfl) T.all (by decide +kernel) (pa_cons (pe_lc (own := [("net", 3)]) (g := gName 3) (tt := tYes) (by rfl) scWeb.nd (pi_tup (pv 2)) (blkOk_by (own := [("net", 3)]) (N := ["value", "labels", "nets", "net", "edge"]) (sc := defScope sWeb) (by decide +kernel)) (fun _ _ _ _ _ => (pg_name (i := 3) scWeb.nd rfl (Or.inl rfl))) (fun _ _ _ _ _ => pts_nil) (fun _ _ _ _ _ => (pe_call GHd hr2 (by rfl) mHd kHd bHd .nil pass0 (pa_cons (pv 3) pa_nil)))) pa_nil))))))) (pss_one (ps_ret pe_bl)) pss_nil)
      (pss_cons (ps_if (PW.pt (pw_or (pt_cmpR op_gt (pe_callB (cr_sum rfl) (by rfl) hsum (by decide +kernel) (pa_cons (pe_lc (own := [("net", 3)]) (g := gName 3) (tt := tYes) (by rfl) scWeb.nd (pi_tup (pv 2)) (blkOk_by (own := [("net", 3)]) (N := ["value", "labels", "nets", "net", "edge"]) (sc := defScope sWeb) (by decide +kernel)) (fun _ _ _ _ _ => (pg_name (i := 3) scWeb.nd rfl (Or.inl rfl))) (fun _ _ _ _ _ => pts_nil) (fun _ _ _ _ _ => (pe_ix (show IxR _ (rIxT K) from ix_tup) (pv 3) pe_int (fun _ _ => rfl)))) pa_nil)) (pe_glob (v := .int 4000) (by rfl) eP ⟨_, rfl⟩) (nomark _)) (pw_or1 (pt_cmpR op_gt (pe_callB (cr_sum rfl) (by rfl) hsum (by decide +kernel) (pa_cons (pe_lc (own := [("net", 3)]) (g := gName 3) (tt := tYes) (by rfl) scWeb.nd (pi_tup (pv 2)) (blkOk_by (own := [("net", 3)]) (N := ["value", "labels", "nets", "net", "edge"]) (sc := defScope sWeb) (by decide +kernel)) (fun _ _ _ _ _ => (pg_name (i := 3) scWeb.nd rfl (Or.inl rfl))) (fun _ _ _ _ _ => pts_nil) (fun _ _ _ _ _ => (pe_callB (show CallR _ _ (rLenQ K) from call_len_seq) (by rfl) T.len PySem.boot_len (pa_cons (pe_ix (show IxR _ (rIxT K) from ix_tup) (pv 3) pe_int (fun _ _ => rfl)) pa_nil)))) pa_nil)) (pe_glob (v := .int 8000) (by rfl) eE ⟨_, rfl⟩) (nomark _))))) (pss_one (ps_ret pe_bl)) pss_nil)
      (pss_one (ps_ret (pe_callB (cr_all rfl) (by rfl) T.all (by decide +kernel) (pa_cons (pe_lc2 (own := [("net", 3), ("edge", 4)]) (vs1 := [4]) (g := gName 3) (g1 := gName 4) (tt := tYes) (tt1 := tYes) (by rfl) scWeb.nd (pi_tup (pv 2)) (blkOk_by (own := [("net", 3), ("edge", 4)]) (N := ["value", "labels", "nets", "net", "edge"]) (sc := defScope sWeb) (by decide +kernel)) (by decide) (fun _ _ _ _ _ => (pg_name (i := 3) scWeb.nd rfl (Or.inl rfl))) (fun _ _ _ _ _ => pts_nil) (fun _ _ _ _ _ => (show PI _ _ _ (iTup K _) from (pi_tup (pe_ix (show IxR _ (rIxT K) from ix_tup) (pv 3) pe_int (fun _ _ => rfl))))) (fun _ _ _ _ _ => (pg_name (i := 4) scWeb.nd rfl (Or.inl rfl))) (fun _ _ _ _ _ => pts_nil) (fun _ _ _ _ _ => (pe_call GEd hr (by rfl) mEd kEd bEd .nil pass0 (pa_cons (pv 4) (pa_cons (pe_ix (show IxR _ (rIxT K) from ix_tup) (pv 3) pe_int (fun _ _ => rfl)) (pa_cons (pe_callB (show CallR _ _ (rLenQ K) from call_len_seq) (by rfl) T.len PySem.boot_len (pa_cons (pv 2) pa_nil)) (pa_cons (pv 1) pa_nil))))))) pa_nil)))))))), ?_⟩
    refine ⟨_, rfl, g, v, d, 2, rfl, hd, fun H1 s1 => ⟨_, rfl, ?_⟩⟩
    cases h2 : lenIs 2 d with
    | false =>
      rw [web_no h2] at k
      exact iteT (k H1 s1)
    | true =>
    obtain ⟨x, y, rfl⟩ := len2 h2
    obtain ⟨b, vx, vy, rfl, eb, hx, hy⟩ := (hd.keep (Kv.of s1)).tup2
    have e0 : webB (.tup [x, y]) = (intIn 0 4000 x && netsB (intOf x) y) := rfl
    rw [e0] at k
    refine iteF ⟨_, rfl, b, _, 0, _, rfl, rfl, SqT.of eb, atI_nat (j := 0) rfl, g, vx, x, 0, 4000, rfl, hx, fun H2 s2 => ⟨_, rfl, ?_⟩⟩
    have s12 := s1.trans s2
    cases n1 : intIn 0 4000 x with
    | false =>
      rw [n1] at k
      exact iteT (k H2 s12)
    | true =>
    rw [n1] at k
    have k : ∀ H', Same H H' → Q (.bl (netsB (intOf x) y)) H' := k
    obtain ⟨lb, rfl⟩ : ∃ i, x = .int i := by
      cases x with
      | int i => exact ⟨i, rfl⟩
      | _ => cases n1
    obtain rfl := hx.int_inv
    refine iteF ⟨_, rfl, b, _, rfl, SqT.of (s2 _ _ eb), rfl, _, _, rfl, _, _, rfl, rfl, ?_⟩
    refine ⟨_, rfl, g, vy, y, 1, 400, rfl, hy.keep (Kv.of s2), fun H3 s3 => ⟨_, rfl, ?_⟩⟩
    have s13 := s12.trans s3
    have hy3 := hy.keep (Kv.of (s2.trans s3))
    -- the heads
    cases y with
    | tup ns =>
      have e1 : netsB (intOf (.int lb)) (.tup ns) = ((lenIn 1 400 (.tup ns) && ns.all headB) && ((decide ((ns.map net0).sum ≤ 4000) && decide ((ns.map fun n => ((netEs n).length : Int)).sum ≤ 8000)) && ns.all fun n => (netEs n).all (edgeB (net0 n) ns.length lb))) := rfl
      rw [e1] at k
      cases n2 : lenIn 1 400 (.tup ns) with
      | false =>
        rw [n2] at k
        exact iteT (k H3 s13)
      | true =>
      rw [n2] at k
      obtain ⟨c, xs, rfl, ec, hxl, rr⟩ := hy3.tup_inv
      refine iteF ⟨_, rfl, c, rfl, ⟨_, SqT.of ec⟩, ?_⟩
      refine lc_tupB (K := K) (f := headB) (i := 3) (vs := [3]) rr ec hxl (fun x => rfl) ?_ ?_
      · intro x d H2' R hm hx s2 hR
        exact ⟨_, rfl, g, x, d, rfl, hx, hR⟩
      intro D H4 s4 hD
      refine ⟨D, ns.map headB, rfl, sql_bl hD, _, rfl, ?_⟩
      rw [all_map]
      have s14 := s13.trans s4
      cases n3 : ns.all headB with
      | false =>
        rw [n3] at k
        exact iteT (k H4 s14)
      | true =>
      rw [n3] at k
      refine iteF ?_
      have hh : ∀ d ∈ ns, headB d = true := fun d hd => List.all_eq_true.mp n3 d hd
      have ec4 := s4 _ _ ec
      have rr4 := rr.keep (Kv.of s4)
      -- the places
      refine ⟨_, rfl, c, rfl, ⟨_, SqT.of ec4⟩, ?_⟩
      refine lc_tupG (K := K) (f := fun d => V.int (net0 d)) (i := 3) (vs := [3]) rr4 ec4 hxl (fun x => rfl) ?_ ?_
      · intro x d H2' R hm hx s2 hR
        obtain ⟨i, es, rfl, _⟩ := head_of (hh d hm)
        obtain ⟨b', vx', vy', rfl, eb', hx', _⟩ := hx.tup2
        obtain rfl := hx'.int_inv
        exact ⟨_, rfl, b', _, 0, _, rfl, rfl, SqT.of eb', atI_nat (j := 0) rfl, hR _ (Same.refl _)⟩
      intro D5 H5 s5 _ hD5
      refine ⟨D5, ns.map net0, rfl, SqL.of (by rw [List.map_map]; exact hD5), _, _, rfl, rfl, _, rfl, ?_⟩
      have s15 := s14.trans s5
      by_cases h4 : (ns.map net0).sum ≤ 4000
      rotate_left
      · rw [decide_eq_false h4] at k
        exact ifT (decide_eq_true (by omega)) (k H5 s15)
      rw [decide_eq_true h4] at k
      refine ifF (decide_eq_false (by omega)) ?_
      have ec5 := s5 _ _ ec4
      have rr5 := rr4.keep (Kv.of s5)
      -- the edges
      refine ⟨_, rfl, c, rfl, ⟨_, SqT.of ec5⟩, ?_⟩
      refine lc_tupG (K := K) (f := fun d => V.int ((netEs d).length : Int)) (i := 3) (vs := [3]) rr5 ec5 hxl (fun x => rfl) ?_ ?_
      · intro x d H2' R hm hx s2 hR
        obtain ⟨i, es, rfl, _⟩ := head_of (hh d hm)
        obtain ⟨b', vx', vy', rfl, eb', _, hy'⟩ := hx.tup2
        obtain ⟨ce, xe, rfl, ece, _, re⟩ := hy'.tup_inv
        refine ⟨_, rfl, b', _, 1, _, rfl, rfl, SqT.of eb', atI_nat (j := 1) rfl, ce, xe, rfl, .inr (SqT.of ece), ?_⟩
        have := hR H2' (Same.refl _)
        rw [show (netEs (.tup [.int i, .tup es])) = es from rfl, ← re.len] at this
        exact this
      intro D6 H6 s6 _ hD6
      refine ⟨D6, ns.map fun n => ((netEs n).length : Int), rfl, SqL.of (by rw [List.map_map]; exact hD6), _, _, rfl, rfl, _, rfl, ?_⟩
      have s16 := s15.trans s6
      by_cases h5 : (ns.map fun n => ((netEs n).length : Int)).sum ≤ 8000
      rotate_left
      · rw [decide_eq_false h5] at k
        exact ifT (decide_eq_true (by omega)) (k H6 s16)
      rw [decide_eq_true h5] at k
      refine ifF (decide_eq_false (by omega)) ?_
      have k : ∀ H', Same H H' → Q (.bl (ns.all fun n => (netEs n).all (edgeB (net0 n) ns.length lb))) H' := k
      have ec6 := s6 _ _ ec5
      have rr6 := rr5.keep (Kv.of s6)
      have hlen := rr.len
      -- each edge
      have bnd : ∀ m : List Dt, (∀ d ∈ m, headB d = true) → ((m.flatMap fun n => (netEs n).map (edgeB (net0 n) ns.length lb)).length : Int) = (m.map fun n => ((netEs n).length : Int)).sum := by
        intro m
        induction m with
        | nil => intro _; rfl
        | cons d m ih =>
          intro hm
          rw [List.flatMap_cons, List.length_append, List.length_map, List.map_cons, List.sum_cons, ← ih fun d hd => hm d (List.mem_cons_of_mem _ hd)]
          omega
      refine ⟨_, rfl, c, rfl, ⟨_, SqT.of ec6⟩, fun D7 hD7 => it_gen (walk_tup (K := K) (a := c) (xs := xs))
        (fun i H' => H' D7 = some (.lst (((ns.take i).flatMap fun n => (netEs n).map (edgeB (net0 n) ns.length lb)).map V.bl)) ∧ Same H6 H') ⟨upd_same, same_new hD7⟩ (fun i H' _ h => SqT.of (h.2 _ _ ec6)) ?_ ?_⟩
      · rintro i x _ H7 hi ⟨h7, s7⟩ ⟨rfl, hxi⟩
        obtain ⟨d, hd, hx7⟩ := rr6.at_ hxi
        have hm := List.mem_of_getElem? hd
        obtain ⟨pl, es, rfl, _⟩ := head_of (hh d hm)
        obtain ⟨b', vx', vy', rfl, eb', hx', hy'⟩ := hx7.tup2
        obtain rfl := hx'.int_inv
        obtain ⟨ce, xe, rfl, ece, hle, re⟩ := hy'.tup_inv
        refine ⟨rfl, ?_⟩
        refine ⟨_, rfl, b', _, 1, _, rfl, rfl, SqT.of (s7 _ _ eb'), atI_nat (j := 1) rfl, ce, rfl, ⟨_, SqT.of (s7 _ _ ece)⟩, it_gen (walk_tup (K := K) (a := ce) (xs := xe))
          (fun j H' => H' D7 = some (.lst ((((ns.take i).flatMap fun n => (netEs n).map (edgeB (net0 n) ns.length lb)) ++ (es.take j).map (edgeB pl ns.length lb)).map V.bl)) ∧ Same H6 H') ⟨by rw [List.take_zero, List.map_nil, List.append_nil]; exact h7, s7⟩ (fun j H' _ h => SqT.of (h.2 _ _ ece)) ?_ ?_⟩
        · rintro j y _ H8 hj ⟨h8, s8⟩ ⟨rfl, hyj⟩
          obtain ⟨e, he, hy8⟩ := re.at_ hyj
          refine ⟨rfl, ?_⟩
          refine ⟨_, rfl, _, rfl, b', _, 0, _, rfl, rfl, SqT.of (s8 _ _ eb'), atI_nat (j := 0) rfl, _, rfl, c, xs, rfl, .inr (SqT.of (s8 _ _ ec6)), _, rfl, ?_⟩
          rw [hlen]
          refine ⟨g, y, e, pl, ns.length, lb, rfl, hy8.keep (Kv.of s8), fun H9 s9 => ⟨_, s9 _ _ h8, ?_, ?_, ?_⟩⟩
          · have hb := bnd (ns.take i) fun d hd => hh d (List.mem_of_mem_take hd)
            have hall := bnd ns hh
            have hsplit : ns = ns.take i ++ ns.drop i := (List.take_append_drop i ns).symm
            rw [List.length_map, List.length_append, List.length_map, List.length_take, sizeLine_eq]
            have h9 : (((ns.take i).flatMap fun n => (netEs n).map (edgeB (net0 n) ns.length lb)).length : Int) ≤ ((ns.flatMap fun n => (netEs n).map (edgeB (net0 n) ns.length lb)).length : Int) := by
              have hq : (ns.flatMap fun n => (netEs n).map (edgeB (net0 n) ns.length lb)).length = ((ns.take i).flatMap fun n => (netEs n).map (edgeB (net0 n) ns.length lb)).length + ((ns.drop i).flatMap fun n => (netEs n).map (edgeB (net0 n) ns.length lb)).length := by
                rw [← List.length_append, ← List.flatMap_append, List.take_append_drop]
              omega
            omega
          · rw [upd_same, List.take_succ, he, List.map_append, List.map_append, List.map_append, List.map_append]
            show some (HO.lst (_ ++ _ ++ [V.bl (edgeB pl ns.length lb e)])) = _
            rw [List.append_assoc]
            rfl
          · intro b o eb
            rw [upd_ne (ne_of_none eb hD7)]
            exact s9 _ _ (s8 _ _ eb)
        · rintro H8 ⟨h8, s8⟩
          refine ⟨?_, s8⟩
          rw [h8, List.take_succ, hd, List.flatMap_append, re.len, List.take_length]
          simp [netEs, net0]
      · rintro H7 ⟨h7, s7⟩
        rw [hlen, List.take_length] at h7
        refine ⟨D7, _, rfl, SqL.of h7, ?_⟩
        have hall : (ns.flatMap fun n => (netEs n).map (edgeB (net0 n) ns.length lb)).all id = ns.all fun n => (netEs n).all (edgeB (net0 n) ns.length lb) := by
          rw [List.all_flatMap]
          congr 1
          funext n
          exact all_map
        rw [hall]
        exact k H7 (s16.trans s7)
    | _ => exact iteT (k H3 s13)
end
end K67

set_option Elab.async false
set_option linter.all false
set_option pp.maxSteps 3000
set_option maxRecDepth 100000
set_option maxHeartbeats 4000000
namespace K67
open PySem PySem.Spec PyProof.Rows L2
/-! enumerate(a tuple) -/
section
variable {P : Program} {w : World}
theorem draws_tup {A : Around} (hh : A.handled = none) (it l : Addr) (ne : l ≠ it) (items : Array Value) : Draws P w A it [it, l] items.size (fun i v => items[i]? = some v) (fun i h => h.IsTupleIter it l i ∧ h.IsTuple l items) := by
  refine ⟨fun i h ⟨⟨o, ho, _⟩, _⟩ => ⟨o, ho⟩, fun i h h' ⟨⟨o, ho, r⟩, ⟨o2, ho2, r2⟩⟩ k => ⟨⟨o, k it (by simp) o ho, r⟩, ⟨o2, k l (by simp) o2 ho2, r2⟩⟩, ?_, ?_⟩
  · intro i s Q E hi ⟨z1, z2⟩ q
    refine RZ.nextOf_tuple_item z1 z2 (Array.getElem?_eq_getElem hi) fun h' z3 sb => ?_
    refine q _ h' s.toks (Array.getElem?_eq_getElem hi) ⟨z3, ?_⟩ sb
    obtain ⟨o2, ho2, r2⟩ := z2
    exact ⟨o2, by rw [sb.2 l ne]; exact ho2, r2⟩
  · intro s Q E ⟨z1, z2⟩ q
    exact RZ.nextOf_tuple_end hh z1 z2 (by simp) q
theorem draws_end {A : Around} (hh : A.handled = none) (it l : Addr) (items : Array Value) (i : Nat) (hi : items.size ≤ i) : Draws P w A it [it, l] i (fun _ _ => True) (fun j h => j = i ∧ h.IsTupleIter it l i ∧ h.IsTuple l items) := by
  refine ⟨fun j h ⟨_, ⟨o, ho, _⟩, _⟩ => ⟨o, ho⟩, fun j h h' ⟨e, ⟨o, ho, r⟩, ⟨o2, ho2, r2⟩⟩ k => ⟨e, ⟨o, k it (by simp) o ho, r⟩, ⟨o2, k l (by simp) o2 ho2, r2⟩⟩, ?_, ?_⟩
  · intro j s Q E hj ⟨e, _⟩ q
    omega
  · intro s Q E ⟨_, z1, z2⟩ q
    exact RZ.nextOf_tuple_end hh z1 z2 (by simpa using hi) q
theorem enum_new {A : Around} {E : Value → Shared → Prop} {s : Shared} {l : Addr} {items : Array Value} {Q : Value → Shared → Prop} (hl : s.heap.IsTuple l items)
    (h : ∀ h' : Heap, IsEnum h' (s.heap.objs.size + 1) s.heap.objs.size 0 .none → h'.IsTupleIter s.heap.objs.size l 0 → h'.objs.size = s.heap.objs.size + 2 → (∀ b o, s.heap.get? b = some o → h'.get? b = some o) → Q (.ref (s.heap.objs.size + 1)) { s with heap := h' }) :
    wpAny (model P w) A (call (.type "enumerate") [.ref l]) Q E s := by
  have M : Meets (Builtin.«enumerate.__new__» { pos := [Value.type "enumerate", Value.ref l] }) fun x R s => ∃ items, s.heap.IsTuple l items ∧ R (.ok (.ret (.ref (s.heap.push { cls := .type "tuple_iterator", data := .fields #[.ref l, .int 0 0] }).objs.size)))
      { s with heap := (s.heap.push { cls := .type "tuple_iterator", data := .fields #[.ref l, .int 0 0] }).push { cls := .type "enumerate", data := .fields #[.none, .bool false, .ref s.heap.objs.size, rawInt 0, .none, .none] } } := by
    refine Meets.of_wp fun P w A R s hR => ?_
    obtain ⟨items, hl, hR⟩ := hR
    have s1 := PySem.sub_enumerate
    unfold Builtin.«enumerate.__new__»
    generalize hPI : pyIter = PI
    wp_walk
    refine wpAny_stack_any fun st => thn (Q := fun (_ : Bool) s' => s' = s) (wpAny_pure rfl) fun short s' hs => ?_
    subst hs
    cases short with
    | true =>
      wp_walk
      subst hPI
      refine wpAny_pyIter_tuple hl ?_
      wp_walk
      exact ⟨_, rfl, hR⟩
    | false =>
      wp_walk
      subst hPI
      refine wpAny_pyIter_tuple hl ?_
      wp_walk
      exact ⟨_, rfl, hR⟩
  refine callType_new PySem.F.called_enumerate (by decide) (PySem.F.typeCall_enumerate_1 _) (PySem.F.newCall_enumerate_1 _) (fun obj => PySem.F.args_object_init_2 _ _) PySem.F.entry_enumerate_new M ?_
  have sz1 : (s.heap.push { cls := .type "tuple_iterator", data := .fields #[.ref l, .int 0 0] }).objs.size = s.heap.objs.size + 1 := Heap.size_push ..
  refine ⟨items, hl, ?_⟩
  have g2 : ((s.heap.push { cls := .type "tuple_iterator", data := .fields #[.ref l, .int 0 0] }).push { cls := .type "enumerate", data := .fields #[.none, .bool false, .ref s.heap.objs.size, rawInt 0, .none, .none] }).get? (s.heap.objs.size + 1) = some { cls := .type "enumerate", data := .fields #[.none, .bool false, .ref s.heap.objs.size, rawInt 0, .none, .none] } := by
    rw [← sz1]
    exact Heap.get?_push_size _ rfl
  have g1 : ((s.heap.push { cls := .type "tuple_iterator", data := .fields #[.ref l, .int 0 0] }).push { cls := .type "enumerate", data := .fields #[.none, .bool false, .ref s.heap.objs.size, rawInt 0, .none, .none] }).get? s.heap.objs.size = some { cls := .type "tuple_iterator", data := .fields #[.ref l, .int 0 0] } := Heap.get?_push_of_some _ (Heap.get?_push_size _ rfl)
  rw [sz1]
  refine ⟨⟨_, g2, rfl⟩, h _ g2 ⟨_, g1, rfl, rfl⟩ ?_ fun b o e => Heap.get?_push_of_some _ (Heap.get?_push_of_some _ e)⟩
  rw [Heap.size_push, sz1]
def IteT (K : PySem.W.Frag) (a : Addr) : It :=
  { go := fun i H => ∃ xs x, SqT K H a xs ∧ xs[i]? = some x
    yld := fun i H v H' => ∃ T x, v = V.ref T ∧ H T = none ∧ H' = upd H T (HO.tup [V.int (i : Nat), x]) ∧ ∀ (xs : List V), SqT K H a xs → xs[i]? = some x
    stop := fun i H => ∃ xs, SqT K H a xs ∧ xs.length ≤ i }
theorem turn_enumT {K : PySem.W.Frag} {elts : List Expr} {kk : Nat} {tpos : Pos} (a e it : Addr) : Turn P w K (.Tuple elts kk tpos) (IteT K a) [e, it] e (fun i h => (∃ old, IsEnum h e it (i : Nat) old) ∧ h.IsTupleIter it a i ∧ e ≠ it) := by
  refine ⟨by simp, ?_, ?_, ?_, ?_, ?_⟩
  · rintro i h ⟨⟨old, h1⟩, ⟨o, h2, _, h3⟩, ne⟩ b hb
    simp only [List.mem_cons, List.not_mem_nil, or_false] at hb
    rcases hb with rfl | rfl
    · exact ⟨_, h1, fun v z => by cases z⟩
    · exact ⟨_, h2, fun v z => by rw [h3] at z; cases z⟩
  · rintro i h h' ⟨⟨old, h1⟩, ⟨o, h2, h3⟩, ne⟩ k
    exact ⟨⟨old, k e (by simp) _ h1⟩, ⟨o, k it (by simp) _ h2, h3⟩, ne⟩
  · rintro X rfl rfl rfl hc i pins s σ H E I fp ⟨⟨old, h1⟩, h2, ne⟩ ⟨xs, x, hq, hx⟩
    obtain ⟨its, rv, tp, hz⟩ := I.tuple hq
    obtain ⟨oa, hoa, hca, na, hda⟩ := tp
    have nea : a ≠ e := fun z => by
      rw [z, h1] at hoa
      cases hoa
      exact absurd (show Value.type "enumerate" = Value.type "tuple" from hca) (by decide)
    have neit : a ≠ it := fun z => by
      obtain ⟨o, h3, h4, _⟩ := h2
      rw [z, h3] at hoa
      cases hoa
      rw [h4] at hca
      exact absurd hca (by decide)
    have hh : X.A.in1.handled = none := I.ok.hd hc
    have W := WalksT.enumerateD (draws_tup (P := X.prog) (w := X.w) hh it a neit its.toArray) e ne (by simp only [List.mem_cons, List.not_mem_nil, or_false, not_or]; exact ⟨ne, fun z => nea z.symm⟩) (by simp)
    have hi : i < its.toArray.size := by
      have := (List.getElem?_eq_some_iff.mp hx).1
      rw [rv.length] at this
      simpa using this
    refine W.item i s _ _ hi ⟨⟨old, h1⟩, h2, ⟨oa, hoa, hca, na, hda⟩⟩ fun T vals h' tk hp hT htup hmid hk => ⟨_, rfl, ?_⟩
    obtain ⟨t, y, hy, rfl⟩ := hp
    have apT := W.apart i T h' hmid
    refine W.go elts kk tpos i T _ _ _ hmid fun h'' hst hk2 => ?_
    obtain ⟨⟨old2, k1⟩, k2, _⟩ := hst
    have hT0 : H T = none := HOk.fresh I.hok hT
    obtain ⟨y', hy', ry⟩ := rv.get hx
    have ey : y' = y := by
      rw [← Array.getElem?_toList] at hy
      have hy : its[i]? = some y := by simpa using hy
      rw [hy'] at hy
      exact Option.some.inj hy
    subst ey
    obtain ⟨oT, hoT, hcT, nT, hdT⟩ := htup
    have tupT : IsTup h'' T #[Value.int (i : Nat) t, y'] := ⟨oT, hk2 T _ apT hoT, hcT, nT, hdT⟩
    refine ⟨.ref T, upd H T (.tup [.int (i : Nat), x]), ?_, rfl, ⟨T, x, rfl, hT0, rfl, fun ys hys => ?_⟩, ⟨⟨old2, k1⟩, k2, ne⟩, fun b hb => ?_⟩
    · refine I.turnedNew (ch := [e, it]) (fun b o nb eb => hk2 b o nb (hk b o nb eb)) fp hT ?_
      refine ⟨by rw [sizeLine_eq]; show 2 ≤ 16777216; decide, [Value.int (i : Nat) t, y'], .cons ⟨t, rfl⟩ (.cons ry .nil), tupT⟩
    · rw [I.tuple_inj hys hq]
      exact hx
    · rw [upd_ne]
      · exact (fp b hb).1
      · intro z
        have hb2 := fun o (ho : s.heap.get? b = some o) => Heap.lt_size ho
        simp only [List.mem_cons, List.not_mem_nil, or_false] at hb
        rcases hb with rfl | rfl
        · exact absurd (hb2 _ h1) (Nat.not_lt.mpr (z ▸ hT))
        · obtain ⟨o, h3, _⟩ := h2
          exact absurd (hb2 _ h3) (Nat.not_lt.mpr (z ▸ hT))
  · rintro X rfl rfl rfl hc i pins s σ H E I fp ⟨⟨old, h1⟩, h2, ne⟩ ⟨xs, hq, hx⟩
    obtain ⟨its, rv, tp, hz⟩ := I.tuple hq
    obtain ⟨oa, hoa, hca, na, hda⟩ := tp
    have hlen := rv.length
    have nea : a ≠ e := fun z => by
      rw [z, h1] at hoa
      cases hoa
      exact absurd (show Value.type "enumerate" = Value.type "tuple" from hca) (by decide)
    have hh : X.A.in1.handled = none := I.ok.hd hc
    have D := draws_end (P := X.prog) (w := X.w) hh it a its.toArray i (by simp; omega)
    have W := WalksT.enumerateD D e ne (by simp only [List.mem_cons, List.not_mem_nil, or_false, not_or]; exact ⟨ne, fun z => nea z.symm⟩) (by simp)
    refine W.done s _ _ ⟨⟨old, h1⟩, rfl, h2, ⟨oa, hoa, hca, na, hda⟩⟩ fun h' tk hk => ⟨rfl, ?_⟩
    exact I.turnedL (ch := [e, it]) (fun b o nb eb => hk b o nb eb) fp
  · rintro A i s Q E ⟨⟨old, h1⟩, _, _⟩ q
    exact wpAny_pyIter_enum h1 q
end
def iEnumT (K : PySem.W.Frag) (ta : TA) : TI := fun σ H R => ta σ H fun vs H1 => ∃ a xs, vs = [.ref a] ∧ SqT K H1 a xs ∧ R (IteT K a) H1
theorem pi_enumT {X : Cx} {e : Expr} {ta : TA} {p pos tpos : Pos} {elts : List Expr} {kk : Nat} (hg : Gl X "enumerate") (hm : X.mg "enumerate" = none) (ha : PA X [e] ta) (na : starEach [e] X.env = [(false, eval e X.env)] := by rfl) :
    PI X (.Tuple elts kk tpos) (.Call (.Name "enumerate" p) [e] [] pos) (iEnumT X.K ta) := by
  constructor
  intro pins s σ H R I h
  refine Call_ (ld_blt I hg hm boot_enumerate (PyProof.Rows.callWith_type1 (thn (ha.run _ pins s σ H _ I h) fun us s1 hv => ?_) (by rw [na] <;> rfl) rfl))
  obtain ⟨vs, H1, I1, rv, a, xs, rfl, hq, hR⟩ := hv
  cases rv with
  | cons r0 r1 =>
    cases r1
    rename_i u
    obtain rfl : u = Value.ref a := r0
    obtain ⟨its, r, tp, hz⟩ := I1.tuple hq
    refine enum_new tp fun h' k1 k2 k3 k4 => ?_
    refine wpAny_pyIter_enum k1 ?_
    have I2 : Inv X pins σ H1 { s1 with heap := h' } := I1.kept (t' := s1.toks) k4
    refine ⟨s1.heap.objs.size + 1, [s1.heap.objs.size + 1, s1.heap.objs.size], _, IteT X.K a, H1, rfl, I2, turn_enumT a (s1.heap.objs.size + 1) s1.heap.objs.size, ⟨⟨_, k1⟩, k2, Nat.succ_ne_self _⟩, fun b hb => ?_, hR⟩
    have hb' : s1.heap.objs.size ≤ b := by
      simp only [List.mem_cons, List.not_mem_nil, or_false] at hb
      rcases hb with rfl | rfl
      · exact Nat.le_succ _
      · exact Nat.le_refl _
    exact I1.fpOk hb' (HOk.fresh I1.hok hb')
theorem walk_enumT {K : PySem.W.Frag} {a : Addr} {xs : List V} : Walk (IteT K a) xs.length (fun H => SqT K H a xs) (YPair (fun i => some (.int (i : Nat))) (fun i => xs[i]?)) := by
  refine ⟨fun i H hi hq => ⟨xs, xs[i], hq, List.getElem?_eq_getElem hi⟩, fun H hq => ⟨xs, hq, Nat.le_refl _⟩, fun i H x H' hi hq hy => ?_⟩
  obtain ⟨T, y, rfl, hT, rfl, k⟩ := hy
  exact ⟨T, _, y, rfl, hT, rfl, rfl, k xs hq⟩
theorem pi_or {X : Cx} {tg e : Expr} {w1 w2 : TI} (h1 : PI X tg e w1) (h2 : PI X tg e w2) : PI X tg e (fun σ H R => w1 σ H R ∨ w2 σ H R) :=
  ⟨fun pins s σ H R I h => h.elim (fun h => h1.run pins s σ H R I h) (fun h => h2.run pins s σ H R I h)⟩
structure Er (K : PySem.W.Frag) (mg : Str → Option Value) (x : Str) (C : Addr) : Prop where
  mC : mg x = some (.ref C)
  exI : PySem.W.excIn K C [.type "ValueError", .type "Exception", .type "BaseException", .type "object"] "ValueError.__new__" = true
  kC : PySem.W.keepIn K (.ref C) = true
  sub : PySem.W.subIn K (.ref C) (.type "BaseException") = some true
  ty : PySem.W.typeIn K (.ref C) = some (.type "type")
end K67

set_option Elab.async false
set_option linter.all false
set_option pp.maxSteps 900
set_option maxRecDepth 100000
set_option maxHeartbeats 4000000
namespace K67
open PySem PySem.Spec PyProof.Rows L2
open TL (tl)
/-! ### webs -/
structure Ed where
  p : Int
  t : Int
  c : Option Int
  b : Int
  l : List Int
def oI : Option Int → Dt
  | none => .non
  | some i => .int i
def oIV : Option Int → V
  | none => .non
  | some i => .int i
def edD (e : Ed) : Dt := .tup [.int e.p, .int e.t, oI e.c, .int e.b, .tup (e.l.map Dt.int)]
def ntD (n : Int × List Ed) : Dt := .tup [.int n.1, .tup (n.2.map edD)]
structure Web where
  lb : Int
  ns : List (Int × List Ed)
def wbD (W : Web) : Dt := .tup [.int W.lb, .tup (W.ns.map ntD)]
structure OkE (places nets labels : Int) (e : Ed) : Prop where
  p : 0 ≤ e.p ∧ e.p ≤ places - 2
  t : 0 ≤ e.t ∧ e.t ≤ places - 1
  c : ∀ i, e.c = some i → 0 ≤ i ∧ i ≤ nets - 1
  b : -1000000000 ≤ e.b ∧ e.b ≤ 1000000000
  l : e.l.length ≤ 8
  k : ∀ i ∈ e.l, 0 ≤ i ∧ i ≤ labels - 1
structure OkW (W : Web) : Prop where
  lb : 0 ≤ W.lb ∧ W.lb ≤ 4000
  n1 : 1 ≤ W.ns.length
  n4 : W.ns.length ≤ 400
  pos : ∀ n ∈ W.ns, 1 ≤ n.1
  sp : (W.ns.map (·.1)).sum ≤ 4000
  se : (W.ns.map fun n => (n.2.length : Int)).sum ≤ 8000
  ed : ∀ n ∈ W.ns, ∀ e ∈ n.2, OkE n.1 W.ns.length W.lb e
theorem int_in {lo hi : Int} {d : Dt} : intIn lo hi d = true ↔ ∃ i, d = .int i ∧ lo ≤ i ∧ i ≤ hi := by
  cases d with
  | int i =>
    show (decide (lo ≤ i) && decide (i ≤ hi)) = true ↔ _
    rw [Bool.and_eq_true, decide_eq_true_iff, decide_eq_true_iff]
    constructor
    · intro h
      exact ⟨i, rfl, h⟩
    · rintro ⟨j, e, h⟩
      injection e with e
      subst e
      exact h
  | _ =>
    refine ⟨(fun h => by cases h), ?_⟩
    rintro ⟨_, e, _⟩
    cases e
theorem map_dec {α : Type} {f : α → Dt} {p : α → Prop} : ∀ {ds : List Dt}, (∀ d ∈ ds, ∃ a, d = f a ∧ p a) → ∃ l : List α, ds = l.map f ∧ ∀ a ∈ l, p a
  | [], _ => ⟨[], rfl, fun a h => by cases h⟩
  | d :: ds, h => by
    obtain ⟨a, rfl, ha⟩ := h d List.mem_cons_self
    obtain ⟨l, rfl, hl⟩ := map_dec fun d hd => h d (List.mem_cons_of_mem _ hd)
    refine ⟨a :: l, rfl, fun b hb => ?_⟩
    rcases List.mem_cons.mp hb with rfl | hb
    · exact ha
    · exact hl b hb
theorem ed_dec {pl nt lb : Int} {d : Dt} (h : edgeB pl nt lb d = true) : ∃ e, d = edD e ∧ OkE pl nt lb e := by
  cases h5 : lenIs 5 d with
  | false =>
    rw [edge_no h5] at h
    cases h
  | true =>
    obtain ⟨p, t, c, b, l, rfl⟩ := len5 h5
    have h : ((intIn 0 (pl - 2) p && intIn 0 (pl - 1) t) && ((callB nt c && intIn (-1000000000) 1000000000 b) && toldB lb l)) = true := h
    simp only [Bool.and_eq_true] at h
    obtain ⟨⟨h1, h2⟩, ⟨h3, h4⟩, h6⟩ := h
    obtain ⟨p, rfl, hp⟩ := int_in.mp h1
    obtain ⟨t, rfl, ht⟩ := int_in.mp h2
    obtain ⟨b, rfl, hb⟩ := int_in.mp h4
    obtain ⟨c', rfl, hc⟩ : ∃ c', c = oI c' ∧ ∀ i, c' = some i → 0 ≤ i ∧ i ≤ nt - 1 := by
      cases c with
      | non => exact ⟨none, rfl, fun i e => by cases e⟩
      | int i =>
        obtain ⟨j, e, hj⟩ := int_in.mp (show intIn 0 (nt - 1) (.int i) = true from h3)
        injection e with e
        subst e
        exact ⟨some i, rfl, fun k e => by injection e with e; rw [← e]; exact hj⟩
      | _ => cases h3
    cases l with
    | tup ks =>
      have h6 : (decide (ks.length ≤ 8) && ks.all (intIn 0 (lb - 1))) = true := h6
      rw [Bool.and_eq_true, decide_eq_true_iff, List.all_eq_true] at h6
      obtain ⟨l, rfl, hl⟩ := map_dec (f := Dt.int) (p := fun i => 0 ≤ i ∧ i ≤ lb - 1) (ds := ks) fun d hd => int_in.mp (h6.2 d hd)
      rw [List.length_map] at h6
      exact ⟨⟨p, t, c', b, l⟩, rfl, hp, ht, hc, hb, h6.1, hl⟩
    | _ => cases h6
theorem web_dec {d : Dt} (h : webB d = true) : ∃ W, d = wbD W ∧ OkW W := by
  cases h2 : lenIs 2 d with
  | false =>
    rw [web_no h2] at h
    cases h
  | true =>
    obtain ⟨x, y, rfl⟩ := len2 h2
    have h : (intIn 0 4000 x && netsB (intOf x) y) = true := h
    rw [Bool.and_eq_true] at h
    obtain ⟨lb, rfl, hlb⟩ := int_in.mp h.1
    cases y with
    | tup ns =>
      have h := h.2
      have h : ((lenIn 1 400 (.tup ns) && ns.all headB) && ((decide ((ns.map net0).sum ≤ 4000) && decide ((ns.map fun n => ((netEs n).length : Int)).sum ≤ 8000)) && ns.all fun n => (netEs n).all (edgeB (net0 n) ns.length lb))) = true := h
      simp only [Bool.and_eq_true, decide_eq_true_iff] at h
      obtain ⟨⟨h1, h3⟩, ⟨h4, h5⟩, h6⟩ := h
      have h1 : (decide ((1 : Int) ≤ (ns.length : Int)) && decide ((ns.length : Int) ≤ 400)) = true := h1
      rw [Bool.and_eq_true, decide_eq_true_iff, decide_eq_true_iff] at h1
      obtain ⟨l, hl, hp⟩ := map_dec (f := ntD) (p := fun n => 1 ≤ n.1 ∧ ∀ e ∈ n.2, OkE n.1 ns.length lb e) (ds := ns) fun d hd => by
        obtain ⟨i, es, rfl, hi⟩ := head_of (List.all_eq_true.mp h3 d hd)
        have h7 := List.all_eq_true.mp h6 _ hd
        obtain ⟨el, rfl, he⟩ := map_dec (f := edD) (p := OkE i ns.length lb) (ds := es) fun e hm => ed_dec (List.all_eq_true.mp (show es.all (edgeB i ns.length lb) = true from h7) e hm)
        exact ⟨(i, el), rfl, hi, he⟩
      have hlen : ns.length = l.length := by rw [hl, List.length_map]
      subst hl
      have m1 : (l.map ntD).map net0 = l.map (·.1) := by
        rw [List.map_map]
        rfl
      have m2 : ((l.map ntD).map fun n => ((netEs n).length : Int)) = l.map fun n => (n.2.length : Int) := by
        rw [List.map_map]
        refine List.map_congr_left fun n _ => ?_
        show (((n.2.map edD).length : Nat) : Int) = _
        rw [List.length_map]
      rw [m1] at h4
      rw [m2] at h5
      refine ⟨⟨lb, l⟩, rfl, hlb, by show 1 ≤ l.length; omega, by show l.length ≤ 400; omega, fun n hn => (hp n hn).1, h4, h5, fun n hn e he => ?_⟩
      have := (hp n hn).2 e he
      rw [hlen] at this
      exact this
    | _ => cases h.2
def spNeed (C : Addr) : Sp := fun vs H Q Ex => ∃ (g : Addr) (v : V) (d : Dt), vs = [v] ∧ DV g H v d ∧ (webB d = true → ∀ H', Same H H' → Q .non H') ∧ (webB d = false → ∀ H', Same H H' → Ex (.ref C) none H')
section
variable {P : Program} {w : World} {K : PySem.W.Frag} {mg : Str → Option Value} {base : Heap}
theorem scNeed : FnScope ["web"] ["web"] (defScope sNeed) := ⟨rfl, rfl, rfl, by decide +kernel, rfl, by decide +kernel, by decide +kernel⟩
theorem ok_need {f C : Addr} {fd : FuncData} (F : Fun K "need_web" "need_web" sNeed f fd) (R : Er K mg "BadWeb" C) (cWeb : Cl P w K mg base "is_web" ["value"] 4 (spAsk webB)) : FnOk P w K mg base (L2.CX P w) 5 f fd ["web"] (spNeed C) := by
  obtain ⟨fWeb, fdWeb, GWeb, mWeb, kWeb, bWeb⟩ := cWeb
  refine F.okX scNeed (fun vs H Q E h => ?_) (fun cdv A outer s H vs Q Ex hr h => ?_)
  · obtain ⟨g, v, d, rfl, _⟩ := h
    rfl
  · obtain ⟨g, v, d, rfl, hd, k1, k2⟩ := h
    refine ⟨_, (pss_one (ps_if (pt_not (pt_val (pe_call GWeb hr (by rfl) mWeb kWeb bWeb .nil pass0 (pa_cons (pv 0) pa_nil)))) (pss_one (ps_raise rfl (takes_of rfl rfl rfl rfl) (pmk_own PySem.F.excBase_ValueError R.exI R.mC R.kC (raises_own R.sub R.ty) (by rfl)))) pss_nil)), ?_⟩
    refine ⟨_, rfl, g, v, d, rfl, hd, fun H1 s1 => ⟨_, rfl, ?_⟩⟩
    cases h : webB d with
    | true => exact ifF rfl (k1 h H1 s1)
    | false => exact ifT rfl (k2 h H1 s1)
end
end K67

set_option Elab.async false
set_option linter.all false
set_option pp.maxSteps 900
set_option maxRecDepth 100000
set_option maxHeartbeats 4000000
namespace K67
open PySem PySem.Spec PyProof.Rows L2
open TL (tl)
/-! ### the place behind steps -/
def seqOf : Dt → Option (List Dt)
  | .lst l => some l
  | .tup l => some l
  | _ => none
def atD : Dt → Dt
  | .tup [a, _] => a
  | d => d
def inner (known : Nat) (ws : List Dt) (c : Int) : Dt → Bool
  | .tup [_, .int j] => decide (0 ≤ j ∧ j ≤ (known : Int) - 1) && (match ws[j.toNat]? with
    | some (.tup [.int n, _]) => decide (n = c)
    | _ => false)
  | _ => false
def stepE (es : List Ed) (ws : List Dt) (known : Nat) (pl : Int) (s : Dt) : Option Int :=
  match atD s with
  | .int k => if 0 ≤ k ∧ k ≤ (es.length : Int) - 1 then
      (match es[k.toNat]? with
        | some e => if e.p = pl then
            (match e.c with
              | none => if isTup s = true then none else some e.t
              | some c => if isTup s = true then (if inner known ws c s = true then some e.t else none) else none)
          else none
        | none => none)
    else none
  | _ => none
def pbL (es : List Ed) (ws : List Dt) (known : Nat) : List Dt → Int → Option Int
  | [], pl => some pl
  | s :: r, pl => (stepE es ws known pl s).bind (pbL es ws known r)
def pbOf (es : List Ed) (ws : List Dt) (known : Nat) (sd : Dt) (pl : Int) : Option Int :=
  match sd with
  | .tup ss => pbL es ws known ss pl
  | _ => none
def spPB : Sp := fun vs H Q _ => ∃ (g : Addr) (vw vws vword : V) (W : Web) (dws sd : Dt) (ws : List Dt) (known : Nat) (net pl : Int) (nt : Int × List Ed), vs = [vw, vws, .int (known : Nat), vword, .int pl] ∧ DV g H vw (wbD W) ∧ OkW W ∧ DV g H vws dws ∧ seqOf dws = some ws ∧
  DV g H vword (.tup [.int net, sd]) ∧ 0 ≤ net ∧ W.ns[net.toNat]? = some nt ∧ known ≤ ws.length ∧ (∀ j, j < known → ∃ (nj : Int) (sj : Dt), ws[j]? = some (.tup [.int nj, sj])) ∧ ∀ H', Same H H' → Q (oIV (pbOf nt.2 ws known sd pl)) H'
section
variable {g : Addr} {H : Hp} {v : V}
theorem wb_at {W : Web} (h : DV g H v (wbD W)) : ∃ b c xs, v = .ref b ∧ H b = some (.tup [.int W.lb, .ref c]) ∧ H c = some (.tup xs) ∧ DVs g H xs (W.ns.map ntD) := by
  obtain ⟨b, vx, vy, rfl, e, hx, hy⟩ := h.tup2
  obtain rfl := hx.int_inv
  obtain ⟨c, xs, rfl, ec, _, r⟩ := hy.tup_inv
  exact ⟨b, c, xs, rfl, e, ec, r⟩
theorem nt_at {n : Int × List Ed} (h : DV g H v (ntD n)) : ∃ b c xs, v = .ref b ∧ H b = some (.tup [.int n.1, .ref c]) ∧ H c = some (.tup xs) ∧ DVs g H xs (n.2.map edD) := by
  obtain ⟨b, vx, vy, rfl, e, hx, hy⟩ := h.tup2
  obtain rfl := hx.int_inv
  obtain ⟨c, xs, rfl, ec, _, r⟩ := hy.tup_inv
  exact ⟨b, c, xs, rfl, e, ec, r⟩
theorem oI_inv {o : Option Int} (h : DV g H v (oI o)) : v = oIV o := by
  cases o with
  | none => cases h; rfl
  | some i => exact h.int_inv
theorem ed_at {e : Ed} (h : DV g H v (edD e)) : ∃ b a, v = .ref b ∧ H b = some (.tup [.int e.p, .int e.t, oIV e.c, .int e.b, .ref a]) ∧ ∃ xs, H a = some (.tup xs) ∧ DVs g H xs (e.l.map Dt.int) := by
  obtain ⟨b, vp, vt, vc, vb, vl, rfl, eb, hp, ht, hc, hb, hl⟩ := h.tup5
  obtain rfl := hp.int_inv
  obtain rfl := ht.int_inv
  obtain rfl := hb.int_inv
  obtain rfl := oI_inv hc
  obtain ⟨a, xs, rfl, ea, _, r⟩ := hl.tup_inv
  exact ⟨b, a, rfl, eb, xs, ea, r⟩
end
theorem seq_at {K : PySem.W.Frag} {g : Addr} {H : Hp} {v : V} {d : Dt} {ws : List Dt} (h : DV g H v d) (hs : seqOf d = some ws) : ∃ a xs, v = .ref a ∧ DVs g H xs ws ∧ ws.length ≤ 20000 ∧ ∀ H', Same H H' → (SqL K H' a xs ∨ SqT K H' a xs) := by
  cases h with
  | lst e n hl r =>
    obtain rfl := Option.some.inj hs
    exact ⟨_, _, rfl, r, hl, fun H' s' => .inl (SqL.of (s' _ _ e))⟩
  | tup e hl r =>
    obtain rfl := Option.some.inj hs
    exact ⟨_, _, rfl, r, hl, fun H' s' => .inr (SqT.of (s' _ _ e))⟩
  | _ => cases hs
theorem rix_of {K : PySem.W.Frag} {H : Hp} {a : Addr} {xs : List V} {j : Int} {v : V} {Q : VK} (h : SqL K H a xs ∨ SqT K H a xs) (e : atI xs j = some v) (q : Q v H) : rIx K (.ref a) (.int j) H Q :=
  h.elim (fun h => .inl ⟨a, xs, j, v, rfl, rfl, h, e, q⟩) (fun h => .inr (.inl ⟨a, xs, j, v, rfl, rfl, h, e, q⟩))
theorem at_int {xs : List V} {j : Int} {v : V} (h0 : 0 ≤ j) (h : xs[j.toNat]? = some v) : atI xs j = some v := by
  have := atI_nat h
  rw [Int.toNat_of_nonneg h0] at this
  exact this
theorem atD_no {d : Dt} (h : lenIs 2 d = false) : atD d = d := by
  cases d with
  | tup xs =>
    match xs, h with
    | [_, _], h => cases h
    | [], _ | [_], _ | _ :: _ :: _ :: _, _ => rfl
  | _ => rfl
theorem atD_int {d : Dt} {k : Int} (h : atD d = .int k) : d = .int k ∨ ∃ y, d = .tup [.int k, y] := by
  cases h2 : lenIs 2 d with
  | true =>
    obtain ⟨x, y, rfl⟩ := len2 h2
    obtain rfl : x = .int k := h
    exact .inr ⟨y, rfl⟩
  | false =>
    rw [atD_no h2] at h
    exact .inl h
section
variable {P : Program} {w : World} {K : PySem.W.Frag} {mg : Str → Option Value} {base : Heap}
end
end K67

set_option Elab.async false
set_option linter.all false
set_option pp.maxSteps 900
set_option maxRecDepth 100000
set_option maxHeartbeats 4000000
namespace K67
open PySem PySem.Spec PyProof.Rows L2
open TL (tl)
/-! ### lists of words -/
def wB2 (W : Web) (ws : List Dt) (at_ : Nat) (sd : Dt) : Dt → Bool
  | .int n => decide (0 ≤ n ∧ n ≤ (W.ns.length : Int) - 1) && (match W.ns[n.toNat]? with
    | some nt => decide (pbOf nt.2 ws at_ sd 0 = some (nt.1 - 1))
    | none => false)
  | _ => false
def wB1 (W : Web) (ws : List Dt) (at_ : Nat) : Dt → Bool
  | .tup [a, sd] => wB2 W ws at_ sd a
  | _ => false
def wB (W : Web) (ws : List Dt) (at_ : Nat) : Bool :=
  match ws[at_]? with
  | some d => wB1 W ws at_ d
  | none => false
def wordsB (W : Web) (d : Dt) : Bool :=
  match seqOf d with
  | some ws => (List.range ws.length).all (wB W ws)
  | none => false
theorem wB1_no {W : Web} {ws : List Dt} {j : Nat} {d : Dt} (h : lenIs 2 d = false) : wB1 W ws j d = false := by
  cases d with
  | tup xs =>
    match xs, h with
    | [_, _], h => cases h
    | [], _ | [_], _ | _ :: _ :: _ :: _, _ => rfl
  | _ => rfl
theorem wB_shape {W : Web} {ws : List Dt} {j : Nat} (h : wB W ws j = true) : ∃ (n : Int) (sd : Dt) (nt : Int × List Ed), ws[j]? = some (.tup [.int n, sd]) ∧ 0 ≤ n ∧ W.ns[n.toNat]? = some nt ∧ pbOf nt.2 ws j sd 0 = some (nt.1 - 1) := by
  unfold wB at h
  cases e : ws[j]? with
  | none => rw [e] at h; cases h
  | some d =>
    rw [e] at h
    have h : wB1 W ws j d = true := h
    cases h2 : lenIs 2 d with
    | false =>
      rw [wB1_no h2] at h
      cases h
    | true =>
    obtain ⟨a, sd, rfl⟩ := len2 h2
    have h : wB2 W ws j sd a = true := h
    cases a with
    | int n =>
      have h : (decide (0 ≤ n ∧ n ≤ (W.ns.length : Int) - 1) && (match W.ns[n.toNat]? with
        | some nt => decide (pbOf nt.2 ws j sd 0 = some (nt.1 - 1))
        | none => false)) = true := h
      rw [Bool.and_eq_true, decide_eq_true_iff] at h
      cases e2 : W.ns[n.toNat]? with
      | none => rw [e2] at h; cases h.2
      | some nt =>
        rw [e2] at h
        exact ⟨n, sd, nt, rfl, h.1.1, e2, of_decide_eq_true h.2⟩
    | _ => cases h
theorem wordsB_no {W : Web} {d : Dt} {ws : List Dt} {j : Nat} (hs : seqOf d = some ws) (hj : j < ws.length) (h : wB W ws j = false) : wordsB W d = false := by
  unfold wordsB
  rw [hs]
  show (List.range ws.length).all (wB W ws) = false
  cases e : (List.range ws.length).all (wB W ws) with
  | false => rfl
  | true =>
    have := List.all_eq_true.mp e j (List.mem_range.mpr hj)
    rw [h] at this
    cases this
def spAW : Sp := fun vs H Q _ => ∃ (g : Addr) (vw vws : V) (W : Web) (d : Dt), vs = [vw, vws] ∧ DV g H vw (wbD W) ∧ OkW W ∧ DV g H vws d ∧ ∀ H', Same H H' → Q (.bl (wordsB W d)) H'
section
variable {P : Program} {w : World} {K : PySem.W.Frag} {mg : Str → Option Value} {base : Heap}
end
end K67

set_option Elab.async false
set_option linter.all false
set_option pp.maxSteps 900
set_option maxRecDepth 100000
set_option maxHeartbeats 4000000
namespace K67
open PySem PySem.Spec PyProof.Rows L2
open TL (tl)
theorem purs_map {α : Type} {f : α → Dt} : ∀ {l : List α}, (∀ a ∈ l, pur (f a) = true) → purs (l.map f) = true
  | [], _ => rfl
  | a :: l, h => by
    show (pur (f a) && purs (l.map f)) = true
    rw [h a List.mem_cons_self, purs_map fun b hb => h b (List.mem_cons_of_mem _ hb)]
    rfl
theorem deps_map {α : Type} {f : α → Dt} {k : Nat} {l : List α} (h : ∀ a ∈ l, dep (f a) ≤ k) : deps (l.map f) ≤ k := deps_le fun d hd => by
  obtain ⟨a, ha, rfl⟩ := List.mem_map.mp hd
  exact h a ha
def spIW (C : Addr) : Sp := fun vs H Q Ex => ∃ (g : Addr) (vw vws : V) (dw d : Dt), vs = [vw, vws] ∧ DV g H vw dw ∧ DV g H vws d ∧ (∀ W, dw = wbD W → OkW W → ∀ H', Same H H' → Q (.bl (wordsB W d)) H') ∧ (webB dw = false → ∀ H', Same H H' → Ex (.ref C) none H')
def spNWd (C : Addr) : Sp := fun vs H Q Ex => ∃ (g : Addr) (vw vws : V) (W : Web) (d : Dt), vs = [vw, vws] ∧ DV g H vw (wbD W) ∧ OkW W ∧ DV g H vws d ∧ (wordsB W d = true → ∀ H', Same H H' → Q .non H') ∧ (wordsB W d = false → ∀ H', Same H H' → Ex (.ref C) none H')
/-- a step's edge, and its word -/
def apD : Dt → Dt
  | .tup l => .tup l
  | d => .tup [d, .non]
def spSA : Sp := fun vs H Q _ => ∃ (g : Addr) (v : V) (ss : List Dt), vs = [v] ∧ DV g H v (.tup ss) ∧ purs ss = true ∧ ∀ (D : Addr) (ys : List V) (H' : Hp), Same H H' → H D = none → H' D = some (.lst ys) → (∀ g', DVs g' H' ys (ss.map apD)) → Q (.ref D) H'
theorem ap_pur {d : Dt} (h : pur d = true) : pur (apD d) = true := by
  cases d with
  | tup l => exact h
  | lst l => cases h
  | dic => cases h
  | str s => exact (Bool.and_eq_true _ _).mpr ⟨h, rfl⟩
  | _ => rfl
section
variable {P : Program} {w : World} {K : PySem.W.Frag} {mg : Str → Option Value} {base : Heap}
end
end K67

set_option Elab.async false
set_option linter.all false
set_option pp.maxSteps 900
set_option maxRecDepth 100000
set_option maxHeartbeats 4000000
namespace K67
open PySem PySem.Spec PyProof.Rows L2
open TL (tl)
abbrev sShf : Stmt := top 37
theorem erase_perm {α : Type} {l : List α} {i : Nat} (h : i < l.length) : (l[i] :: l.eraseIdx i).Perm l := by
  rw [List.eraseIdx_eq_take_drop_succ]
  have q := List.perm_middle (a := l[i]) (l₁ := l.take i) (l₂ := l.drop (i + 1))
  rw [← List.drop_eq_getElem_cons h, List.take_append_drop] at q
  exact q.symm

section
variable {X : Cx}
theorem op_eqNil (hu : X.A.units + 64 < cLine) : OpR X (compareOp .Eq) (fun x y H Q => ∃ (a b : Addr) (xs : List V), x = .ref a ∧ y = .ref b ∧ SqL X.K H a xs ∧ SqL X.K H b [] ∧ Q (.bl xs.isEmpty) H) := by
  intro pins s σ H x y v u Q I rx ry h
  obtain ⟨a, b, xs, rfl, rfl, ha, hb, q⟩ := h
  cases (show v = Value.ref a from rx)
  cases (show u = Value.ref b from ry)
  obtain ⟨us, r1, p1, _⟩ := I.list ha
  obtain ⟨ws, r2, p2, _⟩ := I.list hb
  cases r2
  cases r1 with
  | nil => exact SeqAt.eq_listAt (e := fun _ => true) p1.isList p2.isList rfl (by omega) (fun j h1 _ => absurd h1 (by simp)) (fin_bl I q rfl)
  | cons h t => exact SeqAt.eq_list_lengthsAt p1.isList p2.isList (by simp) (by omega) (fin_bl I q rfl)
theorem op_neNil (hu : X.A.units + 64 < cLine) : OpR X (compareOp .NotEq) (fun x y H Q => ∃ (a b : Addr) (xs : List V), x = .ref a ∧ y = .ref b ∧ SqL X.K H a xs ∧ SqL X.K H b [] ∧ Q (.bl (!xs.isEmpty)) H) := by
  intro pins s σ H x y v u Q I rx ry h
  obtain ⟨a, b, xs, rfl, rfl, ha, hb, q⟩ := h
  cases (show v = Value.ref a from rx)
  cases (show u = Value.ref b from ry)
  obtain ⟨us, r1, p1, _⟩ := I.list ha
  obtain ⟨ws, r2, p2, _⟩ := I.list hb
  cases r2
  cases r1 with
  | nil => exact SeqAt.RcNeAt.lists (e := fun _ => true) p1.isList p2.isList rfl (by omega) (fun j h1 _ => absurd h1 (by simp)) _ _ _ _ (fin_bl I q rfl)
  | cons h t => exact SeqAt.RcNeAt.lists_lengths p1.isList p2.isList (by simp) (by omega) _ _ _ _ (fin_bl I q rfl)
end
def spShf : Sp := fun vs H Q _ => ∃ (d g c a : Addr) (n : Nat) (ts : List V), vs = [.ref d, .ref a] ∧ StA H d g c n ∧ n ≤ 900000000 ∧ H a = some (.lst ts) ∧ ts.length ≤ 10000 ∧
  ∀ (p : Addr) (ys : List V) (H' : Hp), ys.Perm ts → StA H' d g c (n + ts.length) → Kp d g H H' → H p = none → H' p = some (.lst ys) → Q (.ref p) H'
section
variable {P : Program} {w : World} {K : PySem.W.Frag} {mg : Str → Option Value} {base : Heap}
theorem scShf : FnScope ["state", "some", "left", "found"] ["state", "some"] (defScope sShf) := ⟨rfl, rfl, rfl, by decide +kernel, rfl, by decide +kernel, by decide +kernel⟩
theorem ok_shf {f : Addr} {fd : FuncData} (F : Fun K "_law_shuffled" "_law_shuffled" sShf f fd) (T : Bn mg) (cD : Cl P w K mg base "_law_draw" ["state", "room"] 2 spDrw) : FnOk P w K mg base CX0 3 f fd ["state", "some"] spShf := by
  obtain ⟨fD, fdD, GD, mD, kD, bD⟩ := cD
  refine F.ok scShf (fun vs H Q E h => ?_) (fun cdv A outer s H vs Q E hr h => ?_)
  · obtain ⟨d, g, c, a, n, ts, rfl, _⟩ := h
    rfl
  · obtain ⟨d, g, c, a, n, ts, rfl, S, hn, ha, hts, k⟩ := h
    refine ⟨_, (pss_cons (ps_par (i := 2) (j := 3) (by rfl) scShf.nd rfl rfl (by decide) rfl rfl (pa_cons (pe_callTy call_list_of (by rfl) T.lst (by decide +kernel) (pa_cons (pv 1) pa_nil)) (pa_cons (pe_lst pa_nil) pa_nil)) (by rfl))
      (pss_cons (ps_while PassesOwn.never (pt_cmpR (op_neNil hr.units) (pv 2) (pe_lst pa_nil) (nomark _))
          (pss_one (ps_expr (qApp (pv 3) (qPopAt (pv 2) (pe_call GD hr (by rfl) mD kD bD .nil pass0 (pa_cons (pv 0) (pa_cons (pe_callB call_len_seq (by rfl) T.len PySem.boot_len (pa_cons (pv 2) pa_nil)) pa_nil))))))))
      (pss_one (ps_ret (pv 3))))), ?_⟩
    refine ⟨_, rfl, a, _, rfl, .inl (SqL.of ha), fun l hl => ?_⟩
    refine ⟨Nat.zero_le _, fun f hf => ?_⟩
    refine ⟨_, _, rfl, ?_⟩
    have lf : l ≠ f := ne_of_none upd_same hf
    have hf0 : H f = none := by
      rw [upd_ne lf.symm] at hf
      exact hf
    have fl := S.free hl
    have ff := S.free hf0
    refine while_m (fun m σ H' => ∃ ls fs : List V, σ = [some (.ref d), some (.ref a), some (.ref l), some (.ref f)] ∧ ls.length = m ∧ H' l = some (.lst ls) ∧ H' f = some (.lst fs) ∧ (fs ++ ls).Perm ts ∧ StA H' d g c (n + fs.length) ∧ Kp d g H H') ts.length
      ⟨ts, [], rfl, rfl, by rw [upd_ne lf]; exact upd_same, upd_same, List.Perm.refl _, (S.keep (same_new hl)).keep (same_new hf), ((Kp.refl H).upF hl).upF hf0⟩ ?_
    rintro m σ H1 ⟨ls, fs, rfl, hm, hL, hF, pm, S1, kp⟩
    have plen : fs.length + ls.length = ts.length := by
      have := pm.length_eq
      rw [List.length_append] at this
      exact this
    refine ⟨_, rfl, Nat.zero_le _, fun e he => ?_⟩
    have se := same_new (o := .lst []) he
    have hL2 := se _ _ hL
    refine ⟨l, e, ls, rfl, rfl, SqL.of hL2, SqL.of upd_same, ?_⟩
    cases ls with
    | nil =>
      refine ⟨_, rfl, ?_⟩
      refine ifF rfl ?_
      refine ⟨_, rfl, k f fs _ ?_ ?_ (fun b u e' h1 h2 => se _ _ (kp b u e' h1 h2)) hf0 (se _ _ hF)⟩
      · rw [List.append_nil] at pm
        exact pm
      · have e2 : fs.length = ts.length := by simpa using plen
        rw [← e2]
        exact S1.keep se
    | cons x xs =>
      refine ⟨_, rfl, ?_⟩
      refine ifT rfl ?_
      refine ⟨fun σ' H' => ∃ m', m' < m ∧ ∃ ls fs : List V, σ' = [some (.ref d), some (.ref a), some (.ref l), some (.ref f)] ∧ ls.length = m' ∧ H' l = some (.lst ls) ∧ H' f = some (.lst fs) ∧ (fs ++ ls).Perm ts ∧ StA H' d g c (n + fs.length) ∧ Kp d g H H', fun σ' H' z => z, ?_⟩
      have hF2 := se _ _ hF
      have S2 := S1.keep se
      have kp2 : Kp d g H (upd H1 e (.lst [])) := fun b u e' h1 h2 => se _ _ (kp b u e' h1 h2)
      generalize upd H1 e (.lst []) = H2 at hL2 hF2 S2 kp2 ⊢
      refine ⟨_, rfl, .inl ⟨rfl, _, SqL.of hF2⟩, _, rfl, .inl ⟨rfl, _, SqL.of hL2⟩, _, rfl, _, rfl, l, _, rfl, .inl (SqL.of hL2), d, g, c, n + fs.length, _, rfl, S2, by omega, by simp only [List.length_cons]; omega, by simp only [List.length_cons] at plen ⊢; omega, fun v H3 h0 h1 S3 kp3 => ?_⟩
      have hl3 := kp3 _ _ hL2 fl.1 fl.2.1
      have hf3 := kp3 _ _ hF2 ff.1 ff.2.1
      have hi : v.toNat < (x :: xs).length := by omega
      have hlen60 : (x :: xs).length ≤ 10000 := by omega
      refine ⟨l, x :: xs, v, v.toNat, (x :: xs)[v.toNat], rfl, rfl, hl3, by omega, by omega, seqIndex_of h0 h1, List.getElem?_eq_getElem hi, ?_⟩
      refine ⟨f, fs, _, rfl, rfl, by rw [upd_ne lf.symm]; exact hf3, by rw [sizeLine_eq]; omega, ?_⟩
      refine ⟨m - 1, by simp only [List.length_cons] at hm; omega, (x :: xs).eraseIdx v.toNat, fs ++ [(x :: xs)[v.toNat]], rfl, ?_, ?_, ?_, ?_, ?_, ?_⟩
      · rw [List.length_eraseIdx_of_lt hi]
        simp only [List.length_cons] at hm ⊢
        omega
      · rw [upd_ne lf, upd_same]
      · rw [upd_same]
      · rw [List.append_assoc]
        exact (List.Perm.append_left fs (erase_perm hi)).trans pm
      · rw [List.length_append]
        exact (S3.upF fl.1 fl.2.1 fl.2.2).upF ff.1 ff.2.1 ff.2.2
      · have kq : Kp d g H H3 := fun b u e' h1 h2 => kp3 _ _ (kp2 b u e' h1 h2) h1 h2
        exact (kq.upF hl).upF hf0
end
end K67

set_option Elab.async false
set_option linter.all false
set_option pp.maxSteps 900
set_option maxRecDepth 100000
set_option maxHeartbeats 4000000
namespace K67
open PySem PySem.Spec PyProof.Rows L2
open TL (tl)
abbrev sWE : Stmt := top 39
abbrev sWN : Stmt := top 40
abbrev sWW : Stmt := top 41
theorem Kp.free {d g c p : Addr} {H H1 : Hp} {n : Nat} (S : StA H1 d g c n) (k : Kp d g H H1) (hp : H1 p = none) : H p = none := by
  obtain ⟨h1, h2, _⟩ := S.free hp
  cases e : H p with
  | none => rfl
  | some o =>
    rw [k p o e h1 h2] at hp
    cases hp
/-- an edge that the law draws -/
structure DrE (cs : List Int) (labels : Int) (e : Ed) : Prop where
  c : ∀ i, e.c = some i → i ∈ cs
  b : -1000000000 ≤ e.b ∧ e.b ≤ 1000000000
  l : e.l.length ≤ 3
  k : ∀ i ∈ e.l, 0 ≤ i ∧ i < labels
def spWE : Sp := fun vs H Q _ => ∃ (d g c ca : Addr) (n : Nat) (here to labels : Int) (cs : List Int) (low : Bool), vs = [.ref d, .int here, .int to, .ref ca, .int labels, .bl low] ∧ StA H d g c n ∧ n ≤ 900000000 ∧ H ca = some (.lst (cs.map V.int)) ∧ ca ≠ d ∧ ca ≠ g ∧ cs.length ≤ 1000 ∧ 0 ≤ labels ∧ labels ≤ 100 ∧
  ∀ (v : V) (e : Ed) (H' : Hp), e.p = here → e.t = to → DrE cs labels e → StA H' d g c (n + 12) → Kp d g H H' → (∀ g', DV g' H' v (edD e)) → Q v H'
theorem dvs_ints {g : Addr} {H : Hp} : ∀ ks : List Int, DVs g H (ks.map V.int) (ks.map Dt.int)
  | [] => .nil
  | k :: r => .cons (.int k) (dvs_ints r)
section
variable {P : Program} {w : World} {K : PySem.W.Frag} {mg : Str → Option Value} {base : Heap}
theorem scWe : FnScope ["state", "here", "to", "calls", "labels", "low", "call", "beats", "many", "lap"] ["state", "here", "to", "calls", "labels", "low"] (defScope sWE) := ⟨rfl, rfl, rfl, by decide +kernel, rfl, by decide +kernel, by decide +kernel⟩
theorem ok_we {f : Addr} {fd : FuncData} (F : Fun K "_law_wb_edge" "_law_wb_edge" sWE f fd) (T : Bn mg) (cD : Cl P w K mg base "_law_draw" ["state", "room"] 2 spDrw) (cP : Cl P w K mg base "_law_pick" ["state", "some"] 3 spPck) : FnOk P w K mg base CX0 4 f fd ["state", "here", "to", "calls", "labels", "low"] spWE := by
  obtain ⟨fD, fdD, GD, mD, kD, bD⟩ := cD
  obtain ⟨fP, fdP, GP, mP, kP, bP⟩ := cP
  refine F.ok scWe (fun vs H Q E h => ?_) (fun cdv A outer s H vs Q E hr h => ?_)
  · obtain ⟨d, g, c, ca, n, a, b, l, cs, lo, rfl, _⟩ := h
    rfl
  · obtain ⟨d, g, c, ca, n, here, to, labels, cs, low, rfl, S, hn, hca, nd, ng, hcl, hl0, hl1, k⟩ := h
    have hr2 : Room 2 _ := hr.mono (by decide)
    refine ⟨_, (pss_cons (ps_set (i := 6) scWe.nd rfl (Or.inl rfl) pe_non)
      (pss_mid (ps_if (PW.pt (pw_and (pt_cmpR (op_neNil hr.units) (pv 3) (pe_lst pa_nil) (nomark _)) (pw_and1 (pt_cmpR op_eq (pe_call GD hr2 (by rfl) mD kD bD .nil pass0 (pa_cons (pv 0) (pa_cons pe_int pa_nil))) pe_int (nomark _))))) (pss_one (ps_set (i := 6) scWe.nd rfl (Or.inl rfl) (pe_call GP hr (by rfl) mP kP bP .nil pass0 (pa_cons (pv 0) (pa_cons (pv 3) pa_nil))))) pss_nil)
      (pss_cons (ps_set (i := 7) scWe.nd rfl (Or.inl rfl) (pe_call GP hr (by rfl) mP kP bP .nil pass0 (pa_cons (pv 0) (pa_cons (pe_lst (pa_cons pe_int (pa_cons pe_int (pa_cons pe_int (pa_cons pe_int (pa_cons pe_int (pa_cons pe_int (pa_cons (pe_call GD hr2 (by rfl) mD kD bD .nil pass0 (pa_cons (pv 0) (pa_cons pe_int pa_nil))) (pa_cons (pe_op op_pow pe_int pe_int) pa_nil))))))))) pa_nil))))
      (pss_mid (ps_if (PW.pt (pw_and (pt_val (pv 5)) (pw_and1 (pt_cmpR op_eq (pe_call GD hr2 (by rfl) mD kD bD .nil pass0 (pa_cons (pv 0) (pa_cons pe_int pa_nil))) pe_int (nomark _))))) (pss_one (ps_set (i := 7) scWe.nd rfl (Or.inl rfl) (pe_op op_sub pe_int (pe_call GP hr (by rfl) mP kP bP .nil pass0 (pa_cons (pv 0) (pa_cons (pe_lst (pa_cons pe_int (pa_cons pe_int (pa_cons pe_int (pa_cons pe_int (pa_cons (pv 7) pa_nil)))))) pa_nil)))))) pss_nil)
      (pss_mid (ps_set (i := 8) scWe.nd rfl (Or.inl rfl) (pe_ifExp (pt_cmpR op_gt (pv 4) pe_int (nomark _)) (pe_call GP hr (by rfl) mP kP bP .nil pass0 (pa_cons (pv 0) (pa_cons (pe_lst (pa_cons pe_int (pa_cons pe_int (pa_cons pe_int (pa_cons pe_int (pa_cons pe_int pa_nil)))))) pa_nil))) pe_int))
      (pss_one (ps_ret (pe_tup (pa_cons (pv 1) (pa_cons (pv 2) (pa_cons (pv 6) (pa_cons (pv 7) (pa_cons (pe_callTy call_tuple_of (by rfl) T.tpl (by decide +kernel) (pa_cons (pe_lc (own := [("lap", 9)]) (g := gName 9) (tt := tYes) (by rfl) scWe.nd (pi_range1 (by rfl) T.rng (pa_cons (pv 8) pa_nil)) (blkOk_by (own := [("lap", 9)]) (N := ["state", "here", "to", "calls", "labels", "low", "call", "beats", "many", "lap"]) (sc := defScope sWE) (by decide +kernel)) (fun _ _ _ _ _ => (pg_name (i := 9) scWe.nd rfl (Or.inl rfl))) (fun _ _ _ _ _ => pts_nil) (fun _ _ _ _ _ => (pe_call GD hr2 (by rfl) mD kD bD .nil pass0 (pa_cons (pv 0) (pa_cons (pv 4) pa_nil))))) pa_nil)) pa_nil))))))))))))), ?_⟩
    -- call
    refine ⟨fun σ H' => ∃ co : Option Int, σ = [some (.ref d), some (.int here), some (.int to), some (.ref ca), some (.int labels), some (.bl low), some (oIV co), none, none, none] ∧ (∀ i, co = some i → i ∈ cs) ∧ StA H' d g c (n + 2) ∧ Kp d g H H', ?_, ?_⟩
    · refine ⟨_, rfl, Nat.zero_le _, fun e0 he0 => ?_⟩
      generalize hH1 : upd H e0 _ = H1
      obtain ⟨se0, ee0⟩ := freshF he0 hH1
      have S1 := S.keep se0
      have hca1 := se0 _ _ hca
      refine ⟨ca, e0, _, rfl, rfl, SqL.of hca1, SqL.of ee0, _, rfl, ?_⟩
      by_cases hc0 : cs = []
      · subst hc0
        exact ifF rfl ⟨none, rfl, (fun i h => by cases h), S1.mono (by omega), Kp.of se0⟩
      · refine ifT (by cases cs with | nil => exact absurd rfl hc0 | cons a b => rfl) ?_
        refine ⟨_, rfl, d, g, c, n, 2, rfl, S1, by omega, by decide, by decide, fun u H2 u0 u1 S2 kp2 => ?_⟩
        refine ⟨rfl, _, rfl, ?_⟩
        have hca2 := kp2 _ _ hca1 nd ng
        by_cases hu : u = 0
        · refine ifT (by simp [hu]) ?_
          refine ⟨_, rfl, _, rfl, d, g, c, ca, n + 1, _, rfl, S2, by omega, hca2, ng, by simpa using hc0, by rw [List.length_map]; omega, fun v H3 hv S3 kp3 => ?_⟩
          obtain ⟨i, hi, rfl⟩ := List.mem_map.mp hv
          exact ⟨some i, rfl, (fun j h => by injection h with h; rw [← h]; exact hi), S3, (Kp.of se0).trans (kp2.trans kp3)⟩
        · refine ifF (by simp [hu]) ?_
          exact ⟨none, rfl, (fun i h => by cases h), S2.mono (by omega), (Kp.of se0).trans kp2⟩
    rintro σ H1 ⟨co, rfl, hco, S1, kp1⟩
    -- beats
    refine ⟨_, rfl, _, rfl, d, g, c, _, 100, rfl, S1, by omega, by decide, by decide, fun u H2 u0 u1 S2 kp2 => ?_⟩
    refine ⟨_, _, rfl, rfl, by unfold CPow; decide, (by show 8 ≤ sizeLine; decide), fun q hq => ?_⟩
    generalize hH3 : upd H2 q _ = H3
    obtain ⟨sq, eq⟩ := freshF hq hH3
    have S3 := S2.keep sq
    refine ⟨d, g, c, q, _, _, rfl, S3, by omega, eq, (S2.free hq).2.1, by simp, (by show 8 ≤ 1000000; decide), fun v H4 hv S4 kp4 => ?_⟩
    obtain ⟨b, rfl, hb⟩ : ∃ b : Int, v = .int b ∧ 0 ≤ b ∧ b ≤ 1000000000 := by
      simp only [List.mem_cons, List.not_mem_nil, or_false] at hv
      rcases hv with rfl | rfl | rfl | rfl | rfl | rfl | rfl | rfl
      · exact ⟨0, rfl, by decide⟩
      · exact ⟨1, rfl, by decide⟩
      · exact ⟨2, rfl, by decide⟩
      · exact ⟨3, rfl, by decide⟩
      · exact ⟨5, rfl, by decide⟩
      · exact ⟨9, rfl, by decide⟩
      · exact ⟨u, rfl, by omega⟩
      · exact ⟨_, rfl, by decide⟩
    have k14 : Kp d g H H4 := kp1.trans (kp2.trans ((Kp.of sq).trans kp4))
    -- low
    refine ⟨fun σ H' => ∃ b : Int, σ = [some (.ref d), some (.int here), some (.int to), some (.ref ca), some (.int labels), some (.bl low), some (oIV co), some (.int b), none, none] ∧ (-1000000000 ≤ b ∧ b ≤ 1000000000) ∧ StA H' d g c (n + 6) ∧ Kp d g H H', ?_, ?_⟩
    · refine ⟨_, rfl, _, rfl, ?_⟩
      cases low with
      | false => exact ifF rfl ⟨b, rfl, by omega, S4.mono (by omega), k14⟩
      | true =>
        refine ifT rfl ?_
        refine ⟨_, rfl, d, g, c, _, 3, rfl, S4, by omega, by decide, by decide, fun u5 H5 _ _ S5 kp5 => ⟨rfl, _, rfl, ?_⟩⟩
        by_cases hu : u5 = 0
        · refine ifT (by simp [hu]) ?_
          refine ⟨_, rfl, _, rfl, (by show 5 ≤ sizeLine; decide), fun q6 hq6 => ?_⟩
          generalize hH6 : upd H5 q6 _ = H6
          obtain ⟨sq6, eq6⟩ := freshF hq6 hH6
          have S6 := S5.keep sq6
          refine ⟨d, g, c, q6, _, _, rfl, S6, by omega, eq6, (S5.free hq6).2.1, by simp, (by show 5 ≤ 1000000; decide), fun v H7 hv S7 kp7 => ?_⟩
          obtain ⟨b2, rfl, hb2⟩ : ∃ b : Int, v = .int b ∧ 0 ≤ b ∧ b ≤ 1000000000 := by
            simp only [List.mem_cons, List.not_mem_nil, or_false] at hv
            rcases hv with rfl | rfl | rfl | rfl | rfl
            · exact ⟨1, rfl, by decide⟩
            · exact ⟨1, rfl, by decide⟩
            · exact ⟨2, rfl, by decide⟩
            · exact ⟨3, rfl, by decide⟩
            · exact ⟨b, rfl, hb⟩
          exact ⟨_, _, rfl, rfl, 0 - b2, rfl, by omega, S7.mono (by omega), k14.trans (kp5.trans ((Kp.of sq6).trans kp7))⟩
        · exact ifF (by simp [hu]) ⟨b, rfl, by omega, S5.mono (by omega), k14.trans kp5⟩
    clear S4 k14 S3 S2 S1 kp1
    rintro σ H1 ⟨b, rfl, hb, S1, kp1⟩
    -- many
    refine ⟨fun σ H' => ∃ m : Nat, σ = [some (.ref d), some (.int here), some (.int to), some (.ref ca), some (.int labels), some (.bl low), some (oIV co), some (.int b), some (.int (m : Nat)), none] ∧ m ≤ 3 ∧ (0 < m → 0 < labels) ∧ StA H' d g c (n + 7) ∧ Kp d g H H', ?_, ?_⟩
    · refine ⟨_, rfl, _, _, rfl, rfl, _, rfl, ?_⟩
      by_cases hl : 0 < labels
      · refine ifT (decide_eq_true (by omega)) ?_
        refine ⟨_, rfl, (by show 5 ≤ sizeLine; decide), fun q hq => ?_⟩
        generalize hH2 : upd H1 q _ = H2
        obtain ⟨sq, eq⟩ := freshF hq hH2
        have S2 := S1.keep sq
        refine ⟨d, g, c, q, _, _, rfl, S2, by omega, eq, (S1.free hq).2.1, by simp, (by show 5 ≤ 1000000; decide), fun v H3 hv S3 kp3 => ?_⟩
        obtain ⟨m, rfl, hm⟩ : ∃ m : Nat, v = .int (m : Nat) ∧ m ≤ 3 := by
          simp only [List.mem_cons, List.not_mem_nil, or_false] at hv
          rcases hv with rfl | rfl | rfl | rfl | rfl
          · exact ⟨1, rfl, by decide⟩
          · exact ⟨1, rfl, by decide⟩
          · exact ⟨0, rfl, by decide⟩
          · exact ⟨2, rfl, by decide⟩
          · exact ⟨3, rfl, by decide⟩
        exact ⟨m, rfl, hm, fun _ => hl, S3, kp1.trans ((Kp.of sq).trans kp3)⟩
      · refine ifF (decide_eq_false (by omega)) ?_
        exact ⟨0, rfl, by decide, fun h => absurd h (by decide), S1.mono (by omega), kp1⟩
    clear S1 kp1
    rintro σ H1 ⟨m, rfl, hm, hml, S1, kp1⟩
    refine ⟨_, rfl, _, rfl, _, rfl, _, rfl, _, rfl, _, rfl, by omega, by omega, ?_⟩
    intro D hD
    have fD' := S1.free hD
    refine lc_it (walk_range (lo := 0) (n := ((m : Nat) : Int).toNat)) (fun i H' => ∃ ks : List Int, H' D = some (.lst (ks.map V.int)) ∧ ks.length = i ∧ (∀ x ∈ ks, 0 ≤ x ∧ x < labels) ∧ StA H' d g c (n + 7 + i) ∧ Kp d g H1 H')
      ⟨[], upd_same, rfl, (fun x hx => by cases hx), S1.keep (same_new hD), Kp.of (same_new hD)⟩ (fun _ _ _ _ => trivial) ?_ ?_
    · rintro i x H2z H2 hi ⟨ks, e2, hkl, hks, S2, kp2⟩ ⟨rfl, rfl⟩
      rw [Int.toNat_natCast] at hi
      have hl := hml (by omega)
      refine ⟨rfl, ?_⟩
      refine ⟨_, rfl, _, rfl, d, g, c, _, labels, rfl, S2, by omega, hl, by omega, fun u H3 u0 u1 S3 kp3 => ?_⟩
      have e3 := kp3 _ _ e2 fD'.1 fD'.2.1
      refine ⟨_, e3, by rw [List.length_map, hkl, sizeLine_eq]; omega, ks ++ [u], by rw [upd_same, List.map_append]; rfl, by rw [List.length_append, hkl]; rfl, ?_, ?_, (kp2.trans kp3).upF hD⟩
      · intro x hx
        rcases List.mem_append.mp hx with hx | hx
        · exact hks x hx
        · rw [List.mem_singleton.mp hx]
          exact ⟨u0, u1⟩
      · exact (S3.upF fD'.1 fD'.2.1 fD'.2.2).mono (by omega)
    · rintro H2 ⟨ks, e2, hkl, hks, S2, kp2⟩
      rw [Int.toNat_natCast] at hkl S2
      refine ⟨D, _, rfl, .inl ⟨SqL.of e2, fun l hl => ?_⟩⟩
      generalize hH3 : upd H2 l _ = H3
      obtain ⟨sl, el⟩ := freshF hl hH3
      refine ⟨(by show 5 ≤ sizeLine; decide), fun t ht => ?_⟩
      generalize hH4 : upd H3 t _ = H4
      obtain ⟨st, et⟩ := freshF ht hH4
      have s24 := sl.trans st
      refine k _ ⟨here, to, co, b, ks⟩ H4 rfl rfl ⟨hco, hb, by show ks.length ≤ 3; omega, hks⟩ ((S2.keep s24).mono (by omega)) (kp1.trans (kp2.trans (Kp.of s24))) fun g' => ?_
      refine .tup et (by show 5 ≤ 20000; decide) (.cons (.int _) (.cons (.int _) (.cons ?_ (.cons (.int _) (.cons (.tup (st _ _ el) (by show (ks.map Dt.int).length ≤ 20000; rw [List.length_map]; omega) (dvs_ints ks)) .nil)))))
      cases co with
      | none => exact .non
      | some i => exact .int _
end
end K67

set_option Elab.async false
set_option linter.all false
set_option pp.maxSteps 900
set_option maxRecDepth 100000
set_option maxHeartbeats 4000000
namespace K67
open PySem PySem.Spec PyProof.Rows L2
open TL (tl)
def rgI (a b : Int) : List Int := (List.range (b - a).toNat).map fun i => a + (i : Nat)
theorem rgV_eq (a b : Int) : rgV a b = (rgI a b).map V.int := by
  unfold rgV rgI
  rw [List.map_map]
  rfl
theorem rgI_mem {a b x : Int} (h : x ∈ rgI a b) : a ≤ x ∧ x < b := by
  obtain ⟨i, hi, rfl⟩ := List.mem_map.mp h
  have := List.mem_range.mp hi
  omega
theorem rgI_len (a b : Int) : (rgI a b).length = (b - a).toNat := by
  unfold rgI
  rw [List.length_map, List.length_range]
/-- an edge of a net that the law draws -/
structure DrN (pl many labels : Int) (e : Ed) : Prop where
  p : 0 ≤ e.p ∧ e.p ≤ pl - 2
  t : 0 ≤ e.t ∧ e.t ≤ pl - 1
  c : ∀ i, e.c = some i → 0 ≤ i ∧ i < many
  b : -1000000000 ≤ e.b ∧ e.b ≤ 1000000000
  l : e.l.length ≤ 3
  k : ∀ i ∈ e.l, 0 ≤ i ∧ i < labels
theorem ed_pur (e : Ed) : pur (edD e) = true := by
  have h1 : pur (oI e.c) = true := by cases e.c <;> rfl
  have h2 : purs (e.l.map Dt.int) = true := purs_map fun _ _ => rfl
  show (true && (true && (pur (oI e.c) && (true && (purs (e.l.map Dt.int) && true))))) = true
  rw [h1, h2]
  rfl
/-- the law's list of edges -/
def EdSt (wl : Addr) (H : Hp) (es : List Ed) : Prop := ∃ ws, H wl = some (.lst ws) ∧ ∀ g', DVs g' H ws (es.map edD)
theorem eds_pur (es : List Ed) : purs (es.map edD) = true := purs_map fun e _ => ed_pur e
theorem EdSt.mono {wl : Addr} {H H' : Hp} {es : List Ed} (kt : Kt H H') (hw : ∀ xs, H wl = some (.lst xs) → H' wl = some (.lst xs)) (h : EdSt wl H es) : EdSt wl H' es := by
  obtain ⟨ws, e, r⟩ := h
  exact ⟨ws, hw _ e, fun g' => DVs.keepP (g := 0) kt (eds_pur es) (r 0)⟩
theorem EdSt.keep {wl : Addr} {H H' : Hp} {es : List Ed} (s : Same H H') (h : EdSt wl H es) : EdSt wl H' es := h.mono (Kt.of s) fun xs e => s _ _ e
theorem EdSt.kp {wl d g c : Addr} {n : Nat} {H H' : Hp} {es : List Ed} (S : StA H d g c n) (k : Kp d g H H') (h1 : wl ≠ d) (h2 : wl ≠ g) (h : EdSt wl H es) : EdSt wl H' es := h.mono (Kt.kp S k) fun xs e => k _ _ e h1 h2
theorem EdSt.add {wl : Addr} {H : Hp} {es : List Ed} {ws : List V} {v : V} {e : Ed} (hw : H wl = some (.lst ws)) (r : ∀ g', DVs g' H ws (es.map edD)) (hv : ∀ g', DV g' H v (edD e)) : EdSt wl (upd H wl (.lst (ws ++ [v]))) (es ++ [e]) := by
  have kt : Kt H (upd H wl (HO.lst (ws ++ [v]))) := Kt.put hw
  refine ⟨ws ++ [v], upd_same, fun g' => ?_⟩
  rw [List.map_append]
  exact DVs.app (DVs.keepP (g := 0) kt (eds_pur es) (r 0)) (.cons (DV.keepP (g := 0) kt (ed_pur e) (hv 0)) .nil)
theorem DVs.erase {g : Addr} {H : Hp} : ∀ {xs : List V} {ds : List Dt} (k : Nat), DVs g H xs ds → DVs g H (xs.eraseIdx k) (ds.eraseIdx k)
  | _, _, _, .nil => .nil
  | _, _, 0, .cons _ r => r
  | _, _, k + 1, .cons h r => .cons h (DVs.erase k r)
theorem map_erase {α β : Type} (f : α → β) : ∀ (l : List α) (k : Nat), (l.map f).eraseIdx k = (l.eraseIdx k).map f
  | [], _ => rfl
  | _ :: _, 0 => rfl
  | a :: l, k + 1 => congrArg (f a :: ·) (map_erase f l k)
theorem perm_dvs {g : Addr} {H : Hp} {xs ys : List V} (p : ys.Perm xs) : ∀ es : List Ed, DVs g H xs (es.map edD) → ∃ es' : List Ed, es'.Perm es ∧ DVs g H ys (es'.map edD) := by
  induction p with
  | nil => exact fun es r => ⟨es, .refl _, r⟩
  | @cons x l1 l2 _ ih =>
    intro es r
    cases es with
    | nil => cases r
    | cons e es =>
      cases r with
      | cons h r =>
        obtain ⟨es', p', r'⟩ := ih es r
        exact ⟨e :: es', p'.cons e, .cons h r'⟩
  | swap x y l =>
    intro es r
    match es, r with
    | e1 :: e2 :: es, .cons h1 (.cons h2 r) => exact ⟨e2 :: e1 :: es, .swap e1 e2 es, .cons h2 (.cons h1 r)⟩
    | [_], .cons _ r => cases r
    | [], r => cases r
  | trans _ _ ih1 ih2 =>
    intro es r
    obtain ⟨e1, p1, r1⟩ := ih2 es r
    obtain ⟨e2, p2, r2⟩ := ih1 e1 r1
    exact ⟨e2, p2.trans p1, r2⟩
def spWN : Sp := fun vs H Q _ => ∃ (d g c : Addr) (n : Nat) (at_ many labels : Int) (low : Bool), vs = [.ref d, .int at_, .int many, .int labels, .bl low] ∧ StA H d g c n ∧ n ≤ 800000000 ∧ 0 ≤ at_ ∧ at_ < many ∧ many ≤ 100 ∧ 0 ≤ labels ∧ labels ≤ 100 ∧
  ∀ (v : V) (nt : Int × List Ed) (H' : Hp), 1 ≤ nt.1 → nt.1 ≤ 5 → nt.2.length ≤ 7 → (∀ e ∈ nt.2, DrN nt.1 many labels e) → StA H' d g c (n + 200) → Kp d g H H' → (∀ g', DV g' H' v (ntD nt)) → Q v H'
section
variable {P : Program} {w : World} {K : PySem.W.Frag} {mg : Str → Option Value} {base : Heap}
theorem scWn : FnScope ["state", "at", "many", "labels", "low", "places", "edges", "here", "lap", "to", "calls"] ["state", "at", "many", "labels", "low"] (defScope sWN) := ⟨rfl, rfl, rfl, by decide +kernel, rfl, by decide +kernel, by decide +kernel⟩
theorem ok_wn {f : Addr} {fd : FuncData} (F : Fun K "_law_wb_net" "_law_wb_net" sWN f fd) (T : Bn mg) (cD : Cl P w K mg base "_law_draw" ["state", "room"] 2 spDrw) (cP : Cl P w K mg base "_law_pick" ["state", "some"] 3 spPck)
    (cWE : Cl P w K mg base "_law_wb_edge" ["state", "here", "to", "calls", "labels", "low"] 4 spWE) (cSh : Cl P w K mg base "_law_shuffled" ["state", "some"] 3 spShf) : FnOk P w K mg base CX0 5 f fd ["state", "at", "many", "labels", "low"] spWN := by
  obtain ⟨fD, fdD, GD, mD, kD, bD⟩ := cD
  obtain ⟨fP, fdP, GP, mP, kP, bP⟩ := cP
  obtain ⟨fWE, fdWE, GWE, mWE, kWE, bWE⟩ := cWE
  obtain ⟨fSh, fdSh, GSh, mSh, kSh, bSh⟩ := cSh
  refine F.ok scWn (fun vs H Q E h => ?_) (fun cdv A outer s H vs Q E hr h => ?_)
  · obtain ⟨d, g, c, n, a, b, l, lo, rfl, _⟩ := h
    rfl
  · obtain ⟨d, g, c, n, at_, many, labels, low, rfl, S, hn, ha0, ha1, hmany, hl0, hl1, k⟩ := h
    have hr2 : Room 2 _ := hr.mono (by decide)
    have hr3 : Room 3 _ := hr.mono (by decide)
    refine ⟨_, (pss_cons (ps_par (i := 5) (j := 6) (by rfl) scWn.nd rfl rfl (by decide) rfl rfl (pa_cons (pe_call GP hr3 (by rfl) mP kP bP .nil pass0 (pa_cons (pv 0) (pa_cons (pe_lst (pa_cons pe_int (pa_cons pe_int (pa_cons pe_int (pa_cons pe_int (pa_cons pe_int (pa_cons pe_int (pa_cons pe_int pa_nil)))))))) pa_nil))) (pa_cons (pe_lst pa_nil) pa_nil)) (by rfl))
      (pss_cons (ps_for PassesOwn.never rfl (pi_range1 (by rfl) T.rng (pa_cons (pe_op op_sub (pv 5) pe_int) pa_nil)) (pg_name (i := 7) scWn.nd rfl (Or.inl rfl))
          (pss_one (ps_expr (qApp (pv 6) (pe_call GWE hr (by rfl) mWE kWE bWE .nil pass0 (pa_cons (pv 0) (pa_cons (pv 7) (pa_cons (pe_op op_add (pv 7) pe_int) (pa_cons (pe_listRg (by rfl) (by rfl) T.lst (prg_2 (by rfl) T.rng (pe_op op_add (pv 1) pe_int) (pv 2))) (pa_cons (pv 3) (pa_cons (pv 4) pa_nil)))))))))))
      (pss_mid (ps_if (PW.pt (pw_and (pt_cmpR (op_neNil hr.units) (pv 6) (pe_lst pa_nil) (nomark _)) (pw_and1 (pt_cmpR op_eq (pe_call GD hr2 (by rfl) mD kD bD .nil pass0 (pa_cons (pv 0) (pa_cons pe_int pa_nil))) pe_int (nomark _))))) (pss_one (ps_expr (qPopAt (pv 6) (pe_call GD hr2 (by rfl) mD kD bD .nil pass0 (pa_cons (pv 0) (pa_cons (pe_callB call_len_seq (by rfl) T.len PySem.boot_len (pa_cons (pv 6) pa_nil)) pa_nil)))))) pss_nil)
      (pss_cons (ps_for PassesOwn.never rfl (pi_range1 (by rfl) T.rng (pa_cons (pe_weak (pe_ifExp (pt_cmpR op_gt (pv 5) pe_int (nomark _)) (pe_call GP hr3 (by rfl) mP kP bP .nil pass0 (pa_cons (pv 0) (pa_cons (pe_lst (pa_cons pe_int (pa_cons pe_int (pa_cons pe_int (pa_cons pe_int pa_nil))))) pa_nil))) pe_int)) pa_nil)) (pg_name (i := 8) scWn.nd rfl (Or.inl rfl))
          (pss_cons (ps_par (i := 7) (j := 9) (by rfl) scWn.nd rfl rfl (by decide) rfl rfl (pa_cons (pe_call GD hr2 (by rfl) mD kD bD .nil pass0 (pa_cons (pv 0) (pa_cons (pe_op op_sub (pv 5) pe_int) pa_nil))) (pa_cons (pe_call GD hr2 (by rfl) mD kD bD .nil pass0 (pa_cons (pv 0) (pa_cons (pv 5) pa_nil))) pa_nil)) (by rfl))
          (pss_mid (ps_set (i := 10) scWn.nd rfl (Or.inl rfl) (pe_ifExp (pt_cmpR op_eq (pe_call GD hr2 (by rfl) mD kD bD .nil pass0 (pa_cons (pv 0) (pa_cons pe_int pa_nil))) pe_int (nomark _)) (pe_listRg (by rfl) (by rfl) T.lst (prg_1 (by rfl) T.rng (pv 2))) (pe_lst pa_nil)))
          (pss_one (ps_expr (qApp (pv 6) (pe_call GWE hr (by rfl) mWE kWE bWE .nil pass0 (pa_cons (pv 0) (pa_cons (pv 7) (pa_cons (pv 9) (pa_cons (pv 10) (pa_cons (pv 3) (pa_cons (pv 4) pa_nil)))))))))))))
      (pss_one (ps_ret (pe_tup (pa_cons (pv 5) (pa_cons (pe_callTy call_tuple_of (by rfl) T.tpl (by decide +kernel) (pa_cons (pe_call GSh hr3 (by rfl) mSh kSh bSh .nil pass0 (pa_cons (pv 0) (pa_cons (pv 6) pa_nil))) pa_nil)) pa_nil))))))))), ?_⟩
    refine ⟨_, rfl, (by show 7 ≤ sizeLine; decide), fun q hq => ?_⟩
    generalize hH1 : upd H q _ = H1
    obtain ⟨sq, eq⟩ := freshF hq hH1
    have S1 := S.keep sq
    refine ⟨d, g, c, q, _, _, rfl, S1, by omega, eq, (S.free hq).2.1, by simp, (by show 7 ≤ 1000000; decide), fun v H2 hv S2 kp2 => ?_⟩
    obtain ⟨pl, rfl, hp1, hp5⟩ : ∃ p : Int, v = .int p ∧ 1 ≤ p ∧ p ≤ 5 := by
      simp only [List.mem_cons, List.not_mem_nil, or_false] at hv
      rcases hv with rfl | rfl | rfl | rfl | rfl | rfl | rfl <;> exact ⟨_, rfl, by decide, by decide⟩
    refine ⟨Nat.zero_le _, fun wl hwl => ?_⟩
    generalize hH3 : upd H2 wl _ = H3
    obtain ⟨swl, ewl⟩ := freshF hwl hH3
    have fw := S2.free hwl
    have S3 := S2.keep swl
    have k03 : Kp d g H H3 := (Kp.of sq).trans (kp2.trans (Kp.of swl))
    have hwl0 : H wl = none := ((Kp.of sq).trans kp2).free S2 hwl
    refine ⟨_, _, rfl, ?_⟩
    -- the chain of edges
    refine ⟨_, rfl, _, _, rfl, rfl, _, rfl, by omega, by omega, for_range (lo := 0) (n := (pl - 1).toNat)
      (fun i σ H' => ∃ (hv : Option V) (es : List Ed), σ = [some (.ref d), some (.int at_), some (.int many), some (.int labels), some (.bl low), some (.int pl), some (.ref wl), hv, none, none, none] ∧ EdSt wl H' es ∧ es.length = i ∧ (∀ e ∈ es, DrN pl many labels e) ∧ StA H' d g c (n + 1 + 12 * i) ∧ Kp d g H H')
      ⟨none, [], rfl, ⟨[], ewl, fun g' => .nil⟩, rfl, (fun e he => by cases he), S3, k03⟩ ?_ ?_⟩
    · rintro i σ H4 hi ⟨hv, es, rfl, W4, hlen, hes, S4, k4⟩
      obtain ⟨ws4, ew4, rw4⟩ := id W4
      have hi4 : (i : Int) + 1 ≤ pl - 1 := by omega
      refine ⟨_, rfl, .inl ⟨rfl, _, SqL.of ew4⟩, _, rfl, _, rfl, _, rfl, _, _, rfl, rfl, _, rfl, _, _, rfl, rfl, _, rfl, _, _, rfl, rfl, RgOk.of_le (by omega) (by omega) (by omega) (by omega), fun q4 hq4 => ?_⟩
      generalize hH5 : upd H4 q4 _ = H5
      obtain ⟨sq4, eq4⟩ := freshF hq4 hH5
      have S5 := S4.keep sq4
      have W5 := W4.keep sq4
      have fq := S4.free hq4
      refine ⟨_, rfl, _, rfl, d, g, c, q4, _, 0 + (i : Nat), 0 + (i : Nat) + 1, labels, rgI (at_ + 1) many, low, rfl, S5, by omega, by rw [eq4, rgV_eq], fq.1, fq.2.1, by rw [rgI_len]; omega, hl0, hl1, fun v e H6 he1 he2 hdr S6 kp6 hv6 => ?_⟩
      obtain ⟨ws6, ew6, rw6⟩ := W5.kp S5 kp6 fw.1 fw.2.1
      have hl6 : ws6.length = i := by rw [(rw6 0).len, List.length_map, hlen]
      refine ⟨wl, ws6, v, rfl, rfl, ew6, by rw [hl6, sizeLine_eq]; omega, _, es ++ [e], rfl, EdSt.add ew6 rw6 hv6, by rw [List.length_append, hlen]; rfl, ?_, ?_, ?_⟩
      · intro x hx
        rcases List.mem_append.mp hx with hx | hx
        · exact hes x hx
        · rw [List.mem_singleton.mp hx]
          refine ⟨by rw [he1]; omega, by rw [he2]; omega, fun j hj => ?_, hdr.b, hdr.l, hdr.k⟩
          have := rgI_mem (hdr.c j hj)
          omega
      · exact (S6.upF fw.1 fw.2.1 fw.2.2).mono (by omega)
      · exact (k4.trans ((Kp.of sq4).trans kp6)).upF hwl0
    rintro σ H4 ⟨hv, es, rfl, W4, hlen, hes, S4, k4⟩
    -- one taken out
    refine ⟨fun σ H' => ∃ (hv : Option V) (es : List Ed), σ = [some (.ref d), some (.int at_), some (.int many), some (.int labels), some (.bl low), some (.int pl), some (.ref wl), hv, none, none, none] ∧ EdSt wl H' es ∧ es.length ≤ 4 ∧ (∀ e ∈ es, DrN pl many labels e) ∧ StA H' d g c (n + 60) ∧ Kp d g H H', ?_, ?_⟩
    · obtain ⟨ws4, ew4, rw4⟩ := id W4
      have hlw : ws4.length = es.length := by rw [(rw4 0).len, List.length_map]
      refine ⟨_, rfl, Nat.zero_le _, fun e0 he0 => ?_⟩
      generalize hH5 : upd H4 e0 _ = H5
      obtain ⟨se0, ee0⟩ := freshF he0 hH5
      have S5 := S4.keep se0
      refine ⟨wl, e0, ws4, rfl, rfl, SqL.of (se0 _ _ ew4), SqL.of ee0, _, rfl, ?_⟩
      cases hemp : ws4.isEmpty with
      | true => exact ifF rfl ⟨hv, es, rfl, W4.keep se0, by omega, hes, S5.mono (by omega), k4.trans (Kp.of se0)⟩
      | false =>
        refine ifT rfl ?_
        have hpos : 0 < ws4.length := by
          cases ws4 with
          | nil => cases hemp
          | cons a b => exact Nat.succ_pos _
        refine ⟨_, rfl, d, g, c, _, 10, rfl, S5, by omega, by decide, by decide, fun u H6 u0 u1 S6 kp6 => ⟨rfl, _, rfl, ?_⟩⟩
        have W6 := (W4.keep se0).kp S5 kp6 fw.1 fw.2.1
        have k6 := k4.trans ((Kp.of se0).trans kp6)
        by_cases hu : u = 0
        · refine ifT (by simp [hu]) ?_
          obtain ⟨ws6, ew6, rw6⟩ := id W6
          have hl6 : ws6.length = es.length := by rw [(rw6 0).len, List.length_map]
          refine ⟨_, rfl, .inl ⟨rfl, _, SqL.of ew6⟩, _, rfl, _, rfl, wl, ws6, rfl, .inl (SqL.of ew6), d, g, c, _, _, rfl, S6, by omega, by omega, by omega, fun u7 H7 v0 v1 S7 kp7 => ?_⟩
          obtain ⟨ws7, ew7, rw7⟩ := W6.kp S6 kp7 fw.1 fw.2.1
          have hl7 : ws7.length = es.length := by rw [(rw7 0).len, List.length_map]
          have hi7 : u7.toNat < ws7.length := by omega
          refine ⟨wl, ws7, u7, u7.toNat, ws7[u7.toNat], rfl, rfl, ew7, by omega, by omega, seqIndex_of v0 (by omega), List.getElem?_eq_getElem hi7, ?_⟩
          have kt : Kt H7 (upd H7 wl (HO.lst (ws7.eraseIdx u7.toNat))) := Kt.put ew7
          refine ⟨hv, es.eraseIdx u7.toNat, rfl, ⟨_, upd_same, fun g' => ?_⟩, ?_, fun e he => hes e (List.mem_of_mem_eraseIdx he), (S7.upF fw.1 fw.2.1 fw.2.2).mono (by omega), (k6.trans kp7).upF hwl0⟩
          · rw [← map_erase]
            exact DVs.keepP (g := 0) kt (by rw [map_erase]; exact eds_pur _) (DVs.erase u7.toNat (rw7 0))
          · have := List.length_eraseIdx_le es u7.toNat
            omega
        · exact ifF (by simp [hu]) ⟨hv, es, rfl, W6, by omega, hes, S6.mono (by omega), k6⟩
    clear W4 S4 k4 hes hlen es hv
    rintro σ H4 ⟨hv, es, rfl, W4, hlen, hes, S4, k4⟩
    -- more edges
    refine ⟨fun v H' => ∃ m : Nat, v = .int (m : Nat) ∧ m ≤ 3 ∧ (0 < m → 1 < pl) ∧ EdSt wl H' es ∧ StA H' d g c (n + 61) ∧ Kp d g H H', ?_, ?_⟩
    · refine ⟨_, rfl, _, _, rfl, rfl, _, rfl, ?_⟩
      by_cases hp : 1 < pl
      · refine ifT (decide_eq_true (by omega)) ?_
        refine ⟨_, rfl, (by show 4 ≤ sizeLine; decide), fun q5 hq5 => ?_⟩
        generalize hH5 : upd H4 q5 _ = H5
        obtain ⟨sq5, eq5⟩ := freshF hq5 hH5
        have S5 := S4.keep sq5
        refine ⟨d, g, c, q5, _, _, rfl, S5, by omega, eq5, (S4.free hq5).2.1, by simp, (by show 4 ≤ 1000000; decide), fun v H6 hv6 S6 kp6 => ?_⟩
        obtain ⟨m, rfl, hm⟩ : ∃ m : Nat, v = .int (m : Nat) ∧ m ≤ 3 := by
          simp only [List.mem_cons, List.not_mem_nil, or_false] at hv6
          rcases hv6 with rfl | rfl | rfl | rfl
          · exact ⟨1, rfl, by decide⟩
          · exact ⟨2, rfl, by decide⟩
          · exact ⟨0, rfl, by decide⟩
          · exact ⟨3, rfl, by decide⟩
        exact ⟨m, rfl, hm, fun _ => hp, (W4.keep sq5).kp S5 kp6 fw.1 fw.2.1, S6.mono (by omega), k4.trans ((Kp.of sq5).trans kp6)⟩
      · exact ifF (decide_eq_false (by omega)) ⟨0, rfl, by decide, fun h => absurd h (by decide), W4, S4.mono (by omega), k4⟩
    clear W4 S4 k4
    rintro v H4 ⟨m, rfl, hm, hmp, W4, S4, k4⟩
    refine ⟨_, rfl, by omega, by omega, for_range (lo := 0) (n := ((m : Nat) : Int).toNat)
      (fun i σ H' => ∃ (v7 v8 v9 v10 : Option V) (es : List Ed), σ = [some (.ref d), some (.int at_), some (.int many), some (.int labels), some (.bl low), some (.int pl), some (.ref wl), v7, v8, v9, v10] ∧ EdSt wl H' es ∧ es.length ≤ 4 + i ∧ (∀ e ∈ es, DrN pl many labels e) ∧ StA H' d g c (n + 61 + 20 * i) ∧ Kp d g H H')
      ⟨hv, none, none, none, es, rfl, W4, hlen, hes, S4, k4⟩ ?_ ?_⟩
    · rintro i σ H5 hi ⟨v7, v8, v9, v10, es, rfl, W5, hlen, hes, S5, k5⟩
      rw [Int.toNat_natCast] at hi
      have hpl := hmp (by omega)
      refine ⟨_, rfl, _, rfl, _, _, rfl, rfl, d, g, c, _, pl - 1, rfl, S5, by omega, by omega, by omega, fun u H6 u0 u1 S6 kp6 => ?_⟩
      have W6 := W5.kp S5 kp6 fw.1 fw.2.1
      refine ⟨_, rfl, _, rfl, d, g, c, _, pl, rfl, S6, by omega, by omega, by omega, fun t H7 t0 t1 S7 kp7 => ?_⟩
      have W7 := W6.kp S6 kp7 fw.1 fw.2.1
      refine ⟨_, _, rfl, ?_⟩
      have k7 := k5.trans (kp6.trans kp7)
      -- calls
      refine ⟨fun σ H' => ∃ (ca : Addr) (cs : List Int), σ = [some (.ref d), some (.int at_), some (.int many), some (.int labels), some (.bl low), some (.int pl), some (.ref wl), some (.int u), some (.int (0 + (i : Nat))), some (.int t), some (.ref ca)] ∧ H' ca = some (.lst (cs.map V.int)) ∧ ca ≠ d ∧ ca ≠ g ∧ (∀ j ∈ cs, 0 ≤ j ∧ j < many) ∧ cs.length ≤ 100 ∧ EdSt wl H' es ∧ StA H' d g c (n + 61 + 20 * i + 3) ∧ Kp d g H H', ?_, ?_⟩
      · refine ⟨_, rfl, d, g, c, _, 3, rfl, S7, by omega, by decide, by decide, fun u8 H8 _ _ S8 kp8 => ⟨rfl, _, rfl, ?_⟩⟩
        have W8 := W7.kp S7 kp8 fw.1 fw.2.1
        have k8 := k7.trans kp8
        by_cases hu : u8 = 0
        · refine ifT (by simp [hu]) ?_
          refine ⟨_, rfl, _, rfl, RgOk.of_le (by omega) (by omega) (by omega) (by omega), fun ca hca => ?_⟩
          generalize hH9 : upd H8 ca _ = H9
          obtain ⟨sca, eca⟩ := freshF hca hH9
          have fc := S8.free hca
          exact ⟨ca, rgI 0 many, rfl, by rw [eca, rgV_eq], fc.1, fc.2.1, fun j hj => rgI_mem hj, by rw [rgI_len]; omega, W8.keep sca, S8.keep sca, k8.trans (Kp.of sca)⟩
        · refine ifF (by simp [hu]) ?_
          refine ⟨Nat.zero_le _, fun ca hca => ?_⟩
          generalize hH9 : upd H8 ca _ = H9
          obtain ⟨sca, eca⟩ := freshF hca hH9
          have fc := S8.free hca
          exact ⟨ca, [], rfl, eca, fc.1, fc.2.1, (fun j hj => by cases hj), by decide, W8.keep sca, S8.keep sca, k8.trans (Kp.of sca)⟩
      clear W5 W6 W7 S5 S6 S7 kp6 kp7 k5 k7
      rintro σ H6 ⟨ca, cs, rfl, eca, nd, ng, hcs, hcl, W6, S6, k6⟩
      obtain ⟨ws6, ew6, rw6⟩ := id W6
      refine ⟨_, rfl, .inl ⟨rfl, _, SqL.of ew6⟩, _, rfl, _, rfl, _, rfl, _, rfl, _, rfl, _, rfl, d, g, c, ca, _, u, t, labels, cs, low, rfl, S6, by omega, eca, nd, ng, by omega, hl0, hl1, fun v e H7 he1 he2 hdr S7 kp7 hv7 => ?_⟩
      obtain ⟨ws7, ew7, rw7⟩ := W6.kp S6 kp7 fw.1 fw.2.1
      have hl7 : ws7.length = es.length := by rw [(rw7 0).len, List.length_map]
      refine ⟨wl, ws7, v, rfl, rfl, ew7, by rw [hl7, sizeLine_eq]; omega, _, _, _, _, es ++ [e], rfl, EdSt.add ew7 rw7 hv7, by rw [List.length_append]; show es.length + 1 ≤ _; omega, ?_, (S7.upF fw.1 fw.2.1 fw.2.2).mono (by omega), (k6.trans kp7).upF hwl0⟩
      intro x hx
      rcases List.mem_append.mp hx with hx | hx
      · exact hes x hx
      · rw [List.mem_singleton.mp hx]
        refine ⟨by rw [he1]; omega, by rw [he2]; omega, fun j hj => ?_, hdr.b, hdr.l, hdr.k⟩
        exact hcs j (hdr.c j hj)
    clear W4 S4 k4 hes hlen es
    rintro σ H4 ⟨v7, v8, v9, v10, es, rfl, W4, hlen, hes, S4, k4⟩
    rw [Int.toNat_natCast] at hlen S4
    obtain ⟨ws4, ew4, rw4⟩ := id W4
    have hlw : ws4.length = es.length := by rw [(rw4 0).len, List.length_map]
    refine ⟨_, rfl, _, rfl, _, rfl, d, g, c, wl, _, ws4, rfl, S4, by omega, ew4, by omega, fun p ys H5 hperm S5 kp5 hp ep => ?_⟩
    have kt5 := Kt.kp S4 kp5
    obtain ⟨es', pm, r5⟩ := perm_dvs hperm es (DVs.keepP (g := 0) (g' := 0) kt5 (eds_pur es) (rw4 0))
    refine ⟨p, ys, rfl, .inl ⟨SqL.of ep, fun l hl => ?_⟩⟩
    generalize hH6 : upd H5 l _ = H6
    obtain ⟨sl, el⟩ := freshF hl hH6
    refine ⟨(by show 2 ≤ sizeLine; decide), fun t ht => ?_⟩
    generalize hH7 : upd H6 t _ = H7
    obtain ⟨st, et⟩ := freshF ht hH7
    have s57 := sl.trans st
    have hel : es'.length = es.length := pm.length_eq
    refine k _ (pl, es') H7 hp1 hp5 (by show es'.length ≤ 7; omega) (fun e he => hes e (pm.mem_iff.mp he)) ((S5.keep s57).mono (by omega)) (k4.trans (kp5.trans (Kp.of s57))) fun g' => ?_
    refine .tup et (by show 2 ≤ 20000; decide) (.cons (.int _) (.cons (.tup (st _ _ el) (by show (es'.map edD).length ≤ 20000; rw [List.length_map]; omega) ?_) .nil))
    exact DVs.keepP (g := 0) (Kt.of s57) (eds_pur es') r5
end
end K67

set_option Elab.async false
set_option linter.all false
set_option pp.maxSteps 900
set_option maxRecDepth 100000
set_option maxHeartbeats 4000000
namespace K67
open PySem PySem.Spec PyProof.Rows L2
open TL (tl)
theorem nt_pur (n : Int × List Ed) : pur (ntD n) = true := by
  show (true && (purs (n.2.map edD) && true)) = true
  rw [eds_pur]
  rfl
theorem nts_pur (ns : List (Int × List Ed)) : purs (ns.map ntD) = true := purs_map fun n _ => nt_pur n
theorem wb_pur (W : Web) : pur (wbD W) = true := by
  show (true && (purs (W.ns.map ntD) && true)) = true
  rw [nts_pur]
  rfl
/-- a web that the law draws -/
structure DrW (W : Web) : Prop where
  ok : OkW W
  lb : W.lb ≤ 5
  n : W.ns.length ≤ 4
  p : ∀ n ∈ W.ns, n.1 ≤ 5
  e : ∀ n ∈ W.ns, n.2.length ≤ 7
  l : ∀ n ∈ W.ns, ∀ e ∈ n.2, e.l.length ≤ 3
def spWW : Sp := fun vs H Q _ => ∃ (d g c : Addr) (n : Nat) (low : Bool), vs = [.ref d, .bl low] ∧ StA H d g c n ∧ n ≤ 700000000 ∧
  ∀ (v : V) (W : Web) (H' : Hp), DrW W → StA H' d g c (n + 1000) → Kp d g H H' → (∀ g', DV g' H' v (wbD W)) → Q v H'
theorem sum_le {l : List Int} {b : Int} (h : ∀ x ∈ l, x ≤ b) : l.sum ≤ l.length * b := by
  induction l with
  | nil => simp
  | cons x l ih =>
    have h1 := h x List.mem_cons_self
    have h2 := ih fun y hy => h y (List.mem_cons_of_mem _ hy)
    rw [List.sum_cons, List.length_cons]
    have : (((l.length + 1 : Nat) : Int)) * b = l.length * b + b := by rw [Int.natCast_add, Int.add_mul]; simp
    omega
theorem drw_of {lb many : Int} {ns : List (Int × List Ed)} (hl : 0 ≤ lb ∧ lb ≤ 5) (h1 : 1 ≤ ns.length) (h4 : ns.length ≤ 4) (hm : many = ns.length) (hp : ∀ n ∈ ns, 1 ≤ n.1 ∧ n.1 ≤ 5 ∧ n.2.length ≤ 7) (he : ∀ n ∈ ns, ∀ e ∈ n.2, DrN n.1 many lb e) : DrW ⟨lb, ns⟩ := by
  have hs1 : (ns.map (·.1)).sum ≤ 4000 := by
    have := sum_le (l := ns.map (·.1)) (b := 5) fun x hx => by
      obtain ⟨n, hn, rfl⟩ := List.mem_map.mp hx
      exact (hp n hn).2.1
    rw [List.length_map] at this
    omega
  have hs2 : (ns.map fun n => (n.2.length : Int)).sum ≤ 8000 := by
    have := sum_le (l := ns.map fun n => (n.2.length : Int)) (b := 7) fun x hx => by
      obtain ⟨n, hn, rfl⟩ := List.mem_map.mp hx
      have := (hp n hn).2.2
      show (n.2.length : Int) ≤ 7
      omega
    rw [List.length_map] at this
    omega
  refine ⟨⟨⟨hl.1, by show lb ≤ 4000; omega⟩, h1, by show ns.length ≤ 400; omega, fun n hn => (hp n hn).1, hs1, hs2, fun n hn e hm' => ?_⟩, hl.2, h4, fun n hn => (hp n hn).2.1, fun n hn => (hp n hn).2.2, fun n hn e hm' => (he n hn e hm').l⟩
  have h := he n hn e hm'
  have hl' := h.l
  refine ⟨h.p, h.t, fun i hi => ?_, h.b, by omega, fun i hi => ?_⟩
  · have := h.c i hi
    show 0 ≤ i ∧ i ≤ (ns.length : Int) - 1
    omega
  · have := h.k i hi
    show 0 ≤ i ∧ i ≤ lb - 1
    omega
section
variable {P : Program} {w : World} {K : PySem.W.Frag} {mg : Str → Option Value} {base : Heap}
theorem scWw : FnScope ["state", "low", "many", "labels", "at"] ["state", "low"] (defScope sWW) := ⟨rfl, rfl, rfl, by decide +kernel, rfl, by decide +kernel, by decide +kernel⟩
theorem ok_ww {f : Addr} {fd : FuncData} (F : Fun K "_law_wb_web" "_law_wb_web" sWW f fd) (T : Bn mg) (cP : Cl P w K mg base "_law_pick" ["state", "some"] 3 spPck) (cWN : Cl P w K mg base "_law_wb_net" ["state", "at", "many", "labels", "low"] 5 spWN) : FnOk P w K mg base CX0 6 f fd ["state", "low"] spWW := by
  obtain ⟨fP, fdP, GP, mP, kP, bP⟩ := cP
  obtain ⟨fWN, fdWN, GWN, mWN, kWN, bWN⟩ := cWN
  refine F.ok scWw (fun vs H Q E h => ?_) (fun cdv A outer s H vs Q E hr h => ?_)
  · obtain ⟨d, g, c, n, lo, rfl, _⟩ := h
    rfl
  · obtain ⟨d, g, c, n, low, rfl, S, hn, k⟩ := h
    have hr3 : Room 3 _ := hr.mono (by decide)
    refine ⟨_, (pss_cons (ps_asg (pe_tup (pa_cons (pe_call GP hr3 (by rfl) mP kP bP .nil pass0 (pa_cons (pv 0) (pa_cons (pe_lst (pa_cons pe_int (pa_cons pe_int (pa_cons pe_int (pa_cons pe_int pa_nil))))) pa_nil))) (pa_cons (pe_call GP hr3 (by rfl) mP kP bP .nil pass0 (pa_cons (pv 0) (pa_cons (pe_lst (pa_cons pe_int (pa_cons pe_int (pa_cons pe_int (pa_cons pe_int (pa_cons pe_int (pa_cons pe_int pa_nil))))))) pa_nil))) pa_nil))) (pg_tup (by rfl) (pgs_cons (pg_name (i := 2) scWw.nd rfl (Or.inr rfl)) (pgs_cons (pg_name (i := 3) scWw.nd rfl (Or.inr rfl)) pgs_nil))))
      (pss_one (ps_ret (pe_tup (pa_cons (pv 3) (pa_cons (pe_callTy call_tuple_of (by rfl) T.tpl (by decide +kernel) (pa_cons (pe_lc (own := [("at", 4)]) (g := gName 4) (tt := tYes) (by rfl) scWw.nd (pi_range1 (by rfl) T.rng (pa_cons (pv 2) pa_nil)) (blkOk_by (own := [("at", 4)]) (N := ["state", "low", "many", "labels", "at"]) (sc := defScope sWW) (by decide +kernel)) (fun _ _ _ _ _ => (pg_name (i := 4) scWw.nd rfl (Or.inl rfl))) (fun _ _ _ _ _ => pts_nil) (fun _ _ _ _ _ => (pe_call GWN hr (by rfl) mWN kWN bWN .nil pass0 (pa_cons (pv 0) (pa_cons (pv 4) (pa_cons (pv 2) (pa_cons (pv 3) (pa_cons (pv 1) pa_nil)))))))) pa_nil)) pa_nil)))))), ?_⟩
    refine ⟨_, rfl, (by show 4 ≤ sizeLine; decide), fun q hq => ?_⟩
    generalize hH1 : upd H q _ = H1
    obtain ⟨sq, eq⟩ := freshF hq hH1
    have S1 := S.keep sq
    refine ⟨d, g, c, q, _, _, rfl, S1, by omega, eq, (S.free hq).2.1, by simp, (by show 4 ≤ 1000000; decide), fun v H2 hv S2 kp2 => ?_⟩
    obtain ⟨m, rfl, hm1, hm4⟩ : ∃ m : Nat, v = .int (m : Nat) ∧ 1 ≤ m ∧ m ≤ 4 := by
      simp only [List.mem_cons, List.not_mem_nil, or_false] at hv
      rcases hv with rfl | rfl | rfl | rfl
      · exact ⟨2, rfl, by decide, by decide⟩
      · exact ⟨1, rfl, by decide, by decide⟩
      · exact ⟨3, rfl, by decide, by decide⟩
      · exact ⟨4, rfl, by decide, by decide⟩
    refine ⟨_, rfl, (by show 6 ≤ sizeLine; decide), fun q3 hq3 => ?_⟩
    generalize hH3 : upd H2 q3 _ = H3
    obtain ⟨sq3, eq3⟩ := freshF hq3 hH3
    have S3 := S2.keep sq3
    refine ⟨d, g, c, q3, _, _, rfl, S3, by omega, eq3, (S2.free hq3).2.1, by simp, (by show 6 ≤ 1000000; decide), fun v H4 hv S4 kp4 => ?_⟩
    obtain ⟨lb, rfl, hlb⟩ : ∃ l : Int, v = .int l ∧ 0 ≤ l ∧ l ≤ 5 := by
      simp only [List.mem_cons, List.not_mem_nil, or_false] at hv
      rcases hv with rfl | rfl | rfl | rfl | rfl | rfl <;> exact ⟨_, rfl, by decide, by decide⟩
    have k4 : Kp d g H H4 := (Kp.of sq).trans (kp2.trans ((Kp.of sq3).trans kp4))
    refine ⟨(by show 2 ≤ sizeLine; decide), fun tp htp => ?_⟩
    generalize hH4a : upd H4 tp _ = H4a
    obtain ⟨stp, etp⟩ := freshF htp hH4a
    refine ⟨tp, _, rfl, SqT.of etp, rfl, _, _, rfl, _, _, rfl, rfl, ?_⟩
    have S4 := S4.keep stp
    have k4 := k4.trans (Kp.of stp)
    refine ⟨_, rfl, _, rfl, _, rfl, by omega, by omega, ?_⟩
    intro D hD
    have fD := S4.free hD
    refine lc_it (walk_range (lo := 0) (n := ((m : Nat) : Int).toNat)) (fun i H' => ∃ (ws : List V) (ns : List (Int × List Ed)), H' D = some (.lst ws) ∧ (∀ g', DVs g' H' ws (ns.map ntD)) ∧ ns.length = i ∧ (∀ x ∈ ns, 1 ≤ x.1 ∧ x.1 ≤ 5 ∧ x.2.length ≤ 7) ∧ (∀ x ∈ ns, ∀ e ∈ x.2, DrN x.1 (m : Nat) lb e) ∧ StA H' d g c (n + 2 + 200 * i) ∧ Kp d g H4a H')
      ⟨[], [], upd_same, fun g' => .nil, rfl, (fun x hx => by cases hx), (fun x hx => by cases hx), S4.keep (same_new hD), Kp.of (same_new hD)⟩ (fun _ _ _ _ => trivial) ?_ ?_
    · rintro i x H5z H5 hi ⟨ws, ns, e5, r5, hl, hp, he, S5, k5⟩ ⟨rfl, rfl⟩
      rw [Int.toNat_natCast] at hi
      refine ⟨rfl, ?_⟩
      refine ⟨_, rfl, _, rfl, _, rfl, _, rfl, _, rfl, d, g, c, _, 0 + (i : Nat), (m : Nat), lb, low, rfl, S5, by omega, by omega, by omega, by omega, by omega, by omega, fun v nt H6 h1 h5 h7 hdr S6 kp6 hv => ?_⟩
      have e6 := kp6 _ _ e5 fD.1 fD.2.1
      have kt6 := Kt.kp S5 kp6
      have hlw : ws.length = i := by rw [(r5 0).len, List.length_map, hl]
      have ktp : Kt H6 (upd H6 D (HO.lst (ws ++ [v]))) := Kt.put e6
      refine ⟨_, e6, by rw [hlw, sizeLine_eq]; omega, _, ns ++ [nt], upd_same, fun g' => ?_, by rw [List.length_append, hl]; rfl, ?_, ?_, (S6.upF fD.1 fD.2.1 fD.2.2).mono (by omega), (k5.trans kp6).upF hD⟩
      · rw [List.map_append]
        exact DVs.app (DVs.keepP (g := 0) (fun b xs e => ktp _ _ (kt6 _ _ e)) (nts_pur ns) (r5 0)) (.cons (DV.keepP (g := 0) ktp (nt_pur nt) (hv 0)) .nil)
      · intro x hx
        rcases List.mem_append.mp hx with hx | hx
        · exact hp x hx
        · rw [List.mem_singleton.mp hx]
          exact ⟨h1, h5, h7⟩
      · intro x hx
        rcases List.mem_append.mp hx with hx | hx
        · exact he x hx
        · rw [List.mem_singleton.mp hx]
          exact hdr
    · rintro H5 ⟨ws, ns, e5, r5, hl, hp, he, S5, k5⟩
      rw [Int.toNat_natCast] at hl S5
      refine ⟨D, ws, rfl, .inl ⟨SqL.of e5, fun l0 hl0 => ?_⟩⟩
      generalize hH6 : upd H5 l0 _ = H6
      obtain ⟨sl0, el0⟩ := freshF hl0 hH6
      refine ⟨(by show 2 ≤ sizeLine; decide), fun t ht => ?_⟩
      generalize hH7 : upd H6 t _ = H7
      obtain ⟨st, et⟩ := freshF ht hH7
      have s57 := sl0.trans st
      refine k _ ⟨lb, ns⟩ H7 (drw_of hlb (by omega) (by omega) (by omega) hp he) ((S5.keep s57).mono (by omega)) (k4.trans (k5.trans (Kp.of s57))) fun g' => ?_
      refine .tup et (by show 2 ≤ 20000; decide) (.cons (.int _) (.cons (.tup (st _ _ el0) (by show (ns.map ntD).length ≤ 20000; rw [List.length_map]; omega) ?_) .nil))
      exact DVs.keepP (g := 0) (Kt.of s57) (nts_pur ns) (r5 0)
end
end K67

set_option Elab.async false
set_option linter.all false
set_option pp.maxSteps 900
set_option maxRecDepth 100000
set_option maxHeartbeats 4000000
namespace K67
open PySem PySem.Spec PyProof.Rows L2
open TL (tl)
abbrev sSum : Stmt := top 42
abbrev sOwn : Stmt := top 43
def spSum : Sp := fun vs H Q _ => ∃ (p q : Addr) (xs ys : List Int) (t : Int), vs = [.ref p, .ref q, .int t] ∧ H p = some (.lst (xs.map V.int)) ∧ H q = some (.lst (ys.map V.int)) ∧ xs.length = ys.length ∧ xs.length ≤ 5000 ∧ -(2 ^ 64) < t ∧ t < 2 ^ 64 ∧
  ∀ (D : Addr) (H' : Hp), Same H H' → H D = none → H' D = some (.lst ((List.zipWith (fun a b => a + t * b) xs ys).map V.int)) → Q (.ref D) H'
/-- a label more, for each of the names -/
def bump (v : List Int) (l : List Int) : List Int := l.foldl (fun v k => v.set k.toNat (v.getD k.toNat 0 + 1)) v
def own (lb : Int) (e : Ed) : List Int := bump (List.replicate lb.toNat 0 ++ [e.b]) e.l
theorem bump_len (l : List Int) : ∀ v : List Int, (bump v l).length = v.length := by
  induction l with
  | nil => intro v; rfl
  | cons k l ih =>
    intro v
    show (bump (v.set k.toNat (v.getD k.toNat 0 + 1)) l).length = _
    rw [ih, List.length_set]
theorem own_len {lb : Int} (e : Ed) : (own lb e).length = lb.toNat + 1 := by
  unfold own
  rw [bump_len, List.length_append, List.length_replicate]
  rfl
def spOwn : Sp := fun vs H Q _ => ∃ (g : Addr) (vw ve : V) (W : Web) (e : Ed), vs = [vw, ve] ∧ DV g H vw (wbD W) ∧ 0 ≤ W.lb ∧ W.lb ≤ 4000 ∧ DV g H ve (edD e) ∧ (∀ i ∈ e.l, 0 ≤ i ∧ i ≤ W.lb - 1) ∧
  ∀ (D : Addr) (H' : Hp), Same H H' → H D = none → H' D = some (.lst ((own W.lb e).map V.int)) → Q (.ref D) H'
section
variable {P : Program} {w : World} {K : PySem.W.Frag} {mg : Str → Option Value} {base : Heap}
theorem scSum : FnScope ["one", "other", "times", "a", "b"] ["one", "other", "times"] (defScope sSum) := ⟨rfl, rfl, rfl, by decide +kernel, rfl, by decide +kernel, by decide +kernel⟩
theorem ok_sum {f : Addr} {fd : FuncData} (F : Fun K "_law_wb_sum" "_law_wb_sum" sSum f fd) (T : Bn mg) : FnOk P w K mg base CX0 1 f fd ["one", "other", "times"] spSum := by
  refine F.ok scSum (fun vs H Q E h => ?_) (fun cdv A outer s H vs Q E hr h => ?_)
  · obtain ⟨p, q, xs, ys, t, rfl, _⟩ := h
    rfl
  · obtain ⟨p, q, xs, ys, t, rfl, hp, hq, hl, hx, t0, t1, k⟩ := h
    refine ⟨_, (pss_one (ps_ret (pe_lc (own := [("a", 3), ("b", 4)]) (g := gTup K 2 (gCons (gName 3) (gCons (gName 4) gNil))) (tt := tYes) (by rfl) scSum.nd (pi_zip (by rfl) T.zip (pa_cons (pv 0) (pa_cons (pv 1) pa_nil))) (blkOk_by (own := [("a", 3), ("b", 4)]) (N := ["one", "other", "times", "a", "b"]) (sc := defScope sSum) (by decide +kernel)) (fun _ _ _ _ _ => (pg_tup (by rfl) (pgs_cons (pg_name (i := 3) scSum.nd rfl (Or.inl rfl)) (pgs_cons (pg_name (i := 4) scSum.nd rfl (Or.inl rfl)) pgs_nil)))) (fun _ _ _ _ _ => pts_nil) (fun _ _ _ _ _ => (pe_op op_add (pv 3) (pe_op op_mul (pv 2) (pv 4))))))), ?_⟩
    refine ⟨_, rfl, _, rfl, p, q, _, _, rfl, SqL.of hp, SqL.of hq, fun D hD => ?_⟩
    refine lc_it (walk_zip (K := K) (a := p) (b := q) (xs := xs.map V.int) (ys := ys.map V.int) (n := xs.length) (by rw [List.length_map, List.length_map]; omega)) (fun i H' => H' D = some (.lst (((List.zipWith (fun a b => a + t * b) xs ys).take i).map V.int)) ∧ Same H H') ⟨upd_same, same_new hD⟩ (fun _ _ _ h => ⟨SqL.of (h.2 _ _ hp), SqL.of (h.2 _ _ hq)⟩) ?_ ?_
    · rintro i x H1 H1z hi ⟨e1, s1⟩ ⟨T0, x', y', rfl, hT, rfl, hx', hy'⟩
      have hx2 : (xs.map V.int)[i]? = some x' := hx'
      have hy2 : (ys.map V.int)[i]? = some y' := hy'
      rw [List.getElem?_map] at hx2 hy2
      obtain ⟨a, ha, rfl⟩ := Option.map_eq_some_iff.mp hx2
      obtain ⟨b, hb, rfl⟩ := Option.map_eq_some_iff.mp hy2
      have sT := same_new (o := .tup [V.int a, V.int b]) hT
      generalize hH2 : upd H1 T0 _ = H2
      have eT : H2 T0 = some (.tup [V.int a, V.int b]) := by rw [← hH2, upd_same]
      have s12 : Same H1 H2 := by rw [← hH2]; exact sT
      have e2 := s12 _ _ e1
      refine ⟨T0, _, rfl, SqT.of eT, rfl, _, _, rfl, _, _, rfl, rfl, rfl, ?_⟩
      refine ⟨_, rfl, _, rfl, _, rfl, _, _, rfl, rfl, .inl ⟨t0, t1⟩, _, _, rfl, rfl, _, e2, ?_, ?_, ?_⟩
      · rw [List.length_map, List.length_take, sizeLine_eq]
        omega
      · rw [upd_same, List.take_succ, List.getElem?_zipWith, ha, hb, List.map_append]
        rfl
      · intro b' o eb
        rw [upd_ne (ne_of_none eb hD)]
        exact s12 _ _ (s1 _ _ eb)
    · rintro H1 ⟨e1, s1⟩
      rw [List.take_of_length_le (by rw [List.length_zipWith]; omega)] at e1
      exact k D H1 s1 hD e1
theorem scOwn : FnScope ["web", "edge", "found", "name"] ["web", "edge"] (defScope sOwn) := ⟨rfl, rfl, rfl, by decide +kernel, rfl, by decide +kernel, by decide +kernel⟩
theorem ok_own {f : Addr} {fd : FuncData} (F : Fun K "_law_wb_own" "_law_wb_own" sOwn f fd) (T : Bn mg) : FnOk P w K mg base CX0 1 f fd ["web", "edge"] spOwn := by
  refine F.ok scOwn (fun vs H Q E h => ?_) (fun cdv A outer s H vs Q E hr h => ?_)
  · obtain ⟨g, a, b, W, e, rfl, _⟩ := h
    rfl
  · obtain ⟨g, vw, ve, W, e, rfl, hw, hl0, hl1, he, hlab, k⟩ := h
    refine ⟨_, (pss_cons (ps_set (i := 2) scOwn.nd rfl (Or.inl rfl) (pe_op op_cat (pe_op op_rep (pe_lst (pa_cons pe_int pa_nil)) (pe_ix ix_tup (pv 0) pe_int (fun _ _ => rfl))) (pe_lst (pa_cons (pe_ix ix_tup (pv 1) pe_int (fun _ _ => rfl)) pa_nil))))
      (pss_cons (ps_for PassesOwn.never rfl (pi_tup (pe_ix ix_tup (pv 1) pe_int (fun _ _ => rfl))) (pg_name (i := 3) scOwn.nd rfl (Or.inl rfl))
          (pss_one (ps_asg (pe_op op_add (pe_ix ix_list (pv 2) (pv 3) (fun _ _ => rfl)) pe_int) (pg_sub (pv 2) (pv 3) set_list))))
      (pss_one (ps_ret (pv 2))))), ?_⟩
    obtain ⟨b0, c0, xn, rfl, eb0, ec0, rn⟩ := wb_at hw
    obtain ⟨b1, a1, rfl, eb1, xl, ea1, rl⟩ := ed_at he
    refine ⟨(by show 1 ≤ sizeLine; decide), fun z1 hz1 => ?_⟩
    generalize hH1 : upd H z1 _ = H1
    obtain ⟨sz1, ez1⟩ := freshF hz1 hH1
    refine ⟨_, rfl, b0, _, 0, _, rfl, rfl, SqT.of (sz1 _ _ eb0), atI_nat (j := 0) rfl, z1, W.lb, _, rfl, rfl, ez1, by omega, by omega, by show 1 * W.lb.toNat ≤ sizeLine; rw [sizeLine_eq]; omega, fun z2 hz2 => ?_⟩
    generalize hH2 : upd H1 z2 _ = H2
    obtain ⟨sz2, ez2⟩ := freshF hz2 hH2
    have s02 := sz1.trans sz2
    refine ⟨_, rfl, b1, _, 3, _, rfl, rfl, SqT.of (s02 _ _ eb1), atI_nat (j := 3) rfl, (by show 1 ≤ sizeLine; decide), fun z3 hz3 => ?_⟩
    generalize hH3 : upd H2 z3 _ = H3
    obtain ⟨sz3, ez3⟩ := freshF hz3 hH3
    have hrep : (List.replicate W.lb.toNat [V.int 0]).flatten = (List.replicate W.lb.toNat (0 : Int)).map V.int := by
      generalize W.lb.toNat = m
      induction m with
      | zero => rfl
      | succ m ih => rw [List.replicate_succ, List.flatten_cons, ih, List.replicate_succ, List.map_cons]; rfl
    have ez2' : H3 z2 = some (.lst ((List.replicate W.lb.toNat (0 : Int)).map V.int)) := by
      rw [← hrep]
      exact sz3 _ _ ez2
    refine ⟨z2, z3, _, _, rfl, rfl, ez2', ez3, by rw [List.length_map, List.length_replicate, sizeLine_eq]; show _ + 1 ≤ _; omega, fun z4 hz4 => ?_⟩
    generalize hH4 : upd H3 z4 _ = H4
    obtain ⟨sz4, ez4⟩ := freshF hz4 hH4
    have s03 := s02.trans sz3
    have s04 := s03.trans sz4
    have hz40 : H z4 = none := s03.free hz4
    have ez4' : H4 z4 = some (.lst ((List.replicate W.lb.toNat (0 : Int) ++ [e.b]).map V.int)) := by
      rw [ez4, List.map_append]
      rfl
    have hxl : xl.length = e.l.length := by rw [rl.len, List.length_map]
    refine ⟨_, rfl, b1, _, 4, _, rfl, rfl, SqT.of (s04 _ _ eb1), atI_nat (j := 4) rfl, a1, rfl, ⟨_, SqT.of (s04 _ _ ea1)⟩, for_it (walk_tup (K := K) (a := a1) (xs := xl))
      (fun i σ H' => ∃ nm : Option V, σ = [some (.ref b0), some (.ref b1), some (.ref z4), nm] ∧ H' z4 = some (.lst ((bump (List.replicate W.lb.toNat (0 : Int) ++ [e.b]) (e.l.take i)).map V.int)) ∧ Same H H')
      ⟨none, rfl, ez4', s04⟩ (fun i σ H' _ ⟨_, _, _, s⟩ => SqT.of (s _ _ ea1)) ?_ ?_⟩
    · rintro i x σ H5 H5z hi ⟨nm, rfl, e5, s5⟩ ⟨rfl, hx⟩
      obtain ⟨dk, hdk, hxd⟩ := rl.at_ hx
      rw [List.getElem?_map] at hdk
      obtain ⟨kk, hkk, rfl⟩ := Option.map_eq_some_iff.mp hdk
      obtain rfl := hxd.int_inv
      obtain ⟨k0, k1⟩ := hlab kk (List.mem_of_getElem? hkk)
      have hbl : (bump (List.replicate W.lb.toNat (0 : Int) ++ [e.b]) (e.l.take i)).length = W.lb.toNat + 1 := by
        rw [bump_len, List.length_append, List.length_replicate]
        rfl
      generalize hbv : bump (List.replicate W.lb.toNat (0 : Int) ++ [e.b]) (e.l.take i) = bv at *
      have hk : kk.toNat < bv.length := by omega
      have hget : (bv.map V.int)[kk.toNat]? = some (V.int (bv.getD kk.toNat 0)) := by
        rw [List.getElem?_map, List.getElem?_eq_getElem hk, List.getD_eq_getElem?_getD, List.getElem?_eq_getElem hk]
        rfl
      refine ⟨_, rfl, _, rfl, z4, _, kk, _, rfl, rfl, SqL.of e5, at_int k0 hget, _, _, rfl, rfl, ?_⟩
      have hix : ixN (bv.map V.int).length kk = some kk.toNat := by
        unfold ixN
        rw [List.length_map]
        rw [if_pos k0, if_pos (by omega)]
      refine ⟨_, rfl, _, rfl, z4, _, kk, kk.toNat, rfl, rfl, e5, hix, _, rfl, ?_, ?_⟩
      · rw [upd_same, List.take_succ, hkk]
        have hb2 : bump (List.replicate W.lb.toNat (0 : Int) ++ [e.b]) (e.l.take i ++ [kk]) = bv.set kk.toNat (bv.getD kk.toNat 0 + 1) := by
          rw [← hbv]
          unfold bump
          rw [List.foldl_append]
          rfl
        rw [show e.l.take i ++ (some kk).toList = e.l.take i ++ [kk] from rfl, hb2, List.map_set]
      · intro b' o eb
        rw [upd_ne (ne_of_none eb hz40)]
        exact s5 _ _ eb
    · rintro σ H5 ⟨nm, rfl, e5, s5⟩
      rw [hxl, List.take_length] at e5
      exact ⟨_, rfl, k z4 H5 s5 hz40 e5⟩
end
end K67

set_option Elab.async false
set_option linter.all false
set_option pp.maxSteps 900
set_option maxRecDepth 100000
set_option maxHeartbeats 4000000
namespace K67
open PySem PySem.Spec PyProof.Rows L2
/-! ### charts: a graph of spots (mathematics) -/
structure GE where
  s : Nat
  g : Nat
  q : Option Nat
  c : Option Nat
def needs (e : GE) : List Nat := e.g :: e.c.toList
inductive Fn (es : List GE) (ends : List Nat) : Nat → Prop
  | end_ {x : Nat} (h : x ∈ ends) : Fn es ends x
  | step {e : GE} (h : e ∈ es) (hn : ∀ y ∈ needs e, Fn es ends y) : Fn es ends e.s
/-- how many of an edge's needs are among the spots done -/
def dn (P : List Nat) (e : GE) : Nat := (needs e).countP fun y => decide (y ∈ P)
theorem dn_le (P : List Nat) (e : GE) : dn P e ≤ (needs e).length := List.countP_le_length
theorem countP_or {f : Nat} {P : List Nat} (hf : f ∉ P) : ∀ l : List Nat, (l.countP fun y => decide (y ∈ P ++ [f])) = (l.countP fun y => decide (y ∈ P)) + l.count f
  | [] => rfl
  | y :: l => by
    have ih := countP_or hf l
    rw [List.countP_cons, List.countP_cons, List.count_cons, ih]
    by_cases h : y = f
    · subst h
      have h1 : decide (y ∈ P ++ [y]) = true := decide_eq_true (by simp)
      have h2 : decide (y ∈ P) = false := decide_eq_false hf
      rw [h1, h2]
      simp
      omega
    · have h1 : decide (y ∈ P ++ [f]) = decide (y ∈ P) := by
        rw [decide_eq_decide]
        simp [h]
      have h2 : (y == f) = false := by simpa using h
      rw [h1, h2]
      simp
      omega
theorem dn_snoc {f : Nat} {P : List Nat} (hf : f ∉ P) (e : GE) : dn (P ++ [f]) e = dn P e + (needs e).count f := countP_or hf _
theorem dn_all {P : List Nat} {e : GE} (h : dn P e = (needs e).length) : ∀ y ∈ needs e, y ∈ P := fun y hy => by
  have := List.countP_eq_length.mp h y hy
  exact of_decide_eq_true this
theorem dn_full {P : List Nat} {e : GE} (h : ∀ y ∈ needs e, y ∈ P) : dn P e = (needs e).length :=
  List.countP_eq_length.mpr fun y hy => decide_eq_true (h y hy)
theorem needs_ne (e : GE) : needs e ≠ [] := by
  unfold needs
  simp
structure FinI (n : Nat) (es : List GE) (ends : List Nat) (O : List Nat) (ch : List (Option Nat)) : Prop where
  nd : O.Nodup
  lt : ∀ x ∈ O, x < n
  cl : ch.length = n
  en : ∀ x ∈ ends, x ∈ O
  no : ∀ x, x ∈ ends → ch[x]? = some none
  mem : ∀ x a, ch[x]? = some (some a) → x ∈ O
  ord : ∀ (i x : Nat), O[i]? = some x → x ∈ ends ∨ ∃ (a : Nat) (e : GE), ch[x]? = some (some a) ∧ es[a]? = some e ∧ e.s = x ∧ ∀ y ∈ needs e, y ∈ O.take i
/-- where the edges wait -/
def WOk (n : Nat) (es : List GE) (ws : List (List Nat)) : Prop := ws.length = n ∧ ∀ (x : Nat) (l : List Nat), ws[x]? = some l → (∀ a ∈ l, a < es.length) ∧ ∀ (a : Nat) (e : GE), es[a]? = some e → l.count a = (needs e).count x
/-- what is missing still -/
def MsF (es : List GE) (P w : List Nat) (ms : List Int) : Prop := ms.length = es.length ∧ ∀ (a : Nat) (e : GE), es[a]? = some e → ms[a]? = some (((needs e).length : Int) - (dn P e : Nat) - (w.count a : Nat))
def CmF (es : List GE) (O : List Nat) (ms : List Int) : Prop := ∀ (a : Nat) (e : GE), es[a]? = some e → ms[a]? = some 0 → e.s ∈ O
theorem count_take_le {a j : Nat} {w : List Nat} : (w.take j).count a ≤ w.count a := by
  have h : w.count a = (w.take j).count a + (w.drop j).count a := by
    rw [← List.count_append, List.take_append_drop]
  omega
/-- one more of the waiting edges -/
theorem ms_step {es : List GE} {P w : List Nat} {ms : List Int} {j a : Nat} {e : GE} {m : Int} (h : MsF es P (w.take j) ms) (hj : w[j]? = some a) (he : es[a]? = some e) (hm : ms[a]? = some m) : MsF es P (w.take (j + 1)) (ms.set a (m - 1)) := by
  refine ⟨by rw [List.length_set]; exact h.1, fun b f hb => ?_⟩
  have h1 := h.2 b f hb
  rw [List.take_succ, hj]
  show _ = some (((needs f).length : Int) - (dn P f : Nat) - ((w.take j ++ [a]).count b : Nat))
  rw [List.count_append]
  by_cases hab : a = b
  · subst hab
    obtain rfl := Option.some.inj (he.symm.trans hb)
    have hlt := (List.getElem?_eq_some_iff.mp hm).1
    rw [List.getElem?_set_self hlt]
    have := Option.some.inj (hm.symm.trans h1)
    rw [show ([a] : List Nat).count a = 1 by simp]
    congr 1
    omega
  · rw [List.getElem?_set_ne hab, h1]
    rw [show ([a] : List Nat).count b = 0 by simp [List.count_cons, hab]]
    congr 1
/-- all needs of an edge with nothing missing are done -/
theorem ms_zero {n : Nat} {es : List GE} {ws : List (List Nat)} {P w : List Nat} {ms : List Int} {j a f : Nat} {e : GE} (hw : WOk n es ws) (hf : ws[f]? = some w) (hfP : f ∉ P) (h : MsF es P (w.take j) ms) (he : es[a]? = some e) (hz : ms[a]? = some 0) : ∀ y ∈ needs e, y ∈ P ++ [f] := by
  have h1 := Option.some.inj (hz.symm.trans (h.2 a e he))
  have h2 := (hw.2 f w hf).2 a e he
  have h3 := count_take_le (a := a) (j := j) (w := w)
  have h4 := dn_snoc hfP e
  have h5 := dn_le (P ++ [f]) e
  exact dn_all (by omega)
theorem FinI.add {n : Nat} {es : List GE} {ends O : List Nat} {ch : List (Option Nat)} {a : Nat} {e : GE} (I : FinI n es ends O ch) (he : es[a]? = some e) (hs : e.s < n) (hne : e.s ∉ ends) (hc : ch[e.s]? = some none) (hn : ∀ y ∈ needs e, y ∈ O) : FinI n es ends (O ++ [e.s]) (ch.set e.s (some a)) := by
  have hnO : e.s ∉ O := fun h => by
    obtain ⟨i, hi⟩ := List.getElem?_of_mem h
    rcases I.ord i _ hi with h | ⟨a', e', h1, _⟩
    · exact hne h
    · rw [hc] at h1
      cases h1
  have hlt : e.s < ch.length := by rw [I.cl]; exact hs
  refine ⟨?_, fun x hx => ?_, by rw [List.length_set]; exact I.cl, fun x hx => List.mem_append_left _ (I.en x hx), fun x hx => ?_, fun x b hx => ?_, fun i x hi => ?_⟩
  · rw [List.nodup_append]
    exact ⟨I.nd, by simp, fun x hx y hy => by rw [List.mem_singleton.mp hy]; exact fun h => hnO (h ▸ hx)⟩
  · rcases List.mem_append.mp hx with hx | hx
    · exact I.lt x hx
    · rw [List.mem_singleton.mp hx]
      exact hs
  · rw [List.getElem?_set_ne (show e.s ≠ x from fun h => hne (by rw [h]; exact hx))]
    exact I.no x hx
  · by_cases h : e.s = x
    · exact List.mem_append_right _ (List.mem_singleton.mpr h.symm)
    · rw [List.getElem?_set_ne h] at hx
      exact List.mem_append_left _ (I.mem x b hx)
  · by_cases hlo : i < O.length
    · rw [List.getElem?_append_left hlo] at hi
      have hx : x ∈ O := List.mem_of_getElem? hi
      have ne : e.s ≠ x := fun h => hnO (h ▸ hx)
      rcases I.ord i x hi with h | ⟨b, f, h1, h2, h3, h4⟩
      · exact .inl h
      · refine .inr ⟨b, f, by rw [List.getElem?_set_ne ne]; exact h1, h2, h3, fun y hy => ?_⟩
        rw [List.take_append_of_le_length (by omega)]
        exact h4 y hy
    · have hi' := (List.getElem?_eq_some_iff.mp hi).1
      rw [List.length_append] at hi'
      have hie : i = O.length := by
        have : i < O.length + 1 := hi'
        omega
      subst hie
      rw [List.getElem?_append_right (Nat.le_refl _), Nat.sub_self] at hi
      obtain rfl := Option.some.inj hi
      refine .inr ⟨a, e, by rw [List.getElem?_set_self hlt], he, rfl, fun y hy => ?_⟩
      rw [List.take_left' rfl]
      exact hn y hy
theorem FinI.sound {n : Nat} {es : List GE} {ends O : List Nat} {ch : List (Option Nat)} (I : FinI n es ends O ch) : ∀ (k i x : Nat), i ≤ k → O[i]? = some x → Fn es ends x
  | k, i, x, hik, hi => by
    rcases I.ord i x hi with h | ⟨a, e, h1, h2, h3, h4⟩
    · exact .end_ h
    · rw [← h3]
      refine .step (List.mem_of_getElem? h2) fun y hy => ?_
      have hm := h4 y hy
      obtain ⟨j, hj⟩ := List.getElem?_of_mem hm
      have hjl := (List.getElem?_eq_some_iff.mp hj).1
      rw [List.length_take] at hjl
      rw [List.getElem?_take_of_lt (by omega)] at hj
      match k, hik with
      | 0, h => omega
      | k + 1, h => exact FinI.sound I k j y (by omega) hj
theorem FinI.done {n : Nat} {es : List GE} {ends O : List Nat} {ch : List (Option Nat)} {ms : List Int} (I : FinI n es ends O ch) (hm : MsF es O [] ms) (hc : CmF es O ms) (x : Nat) : x ∈ O ↔ Fn es ends x := by
  constructor
  · intro h
    obtain ⟨i, hi⟩ := List.getElem?_of_mem h
    exact I.sound i i x (Nat.le_refl _) hi
  · intro h
    induction h with
    | end_ h => exact I.en _ h
    | @step e h hn ih =>
      obtain ⟨a, ha⟩ := List.getElem?_of_mem h
      have h1 := hm.2 a e ha
      rw [dn_full ih] at h1
      refine hc a e ha ?_
      rw [h1]
      congr 1
      show _ - _ - ((0 : Nat) : Int) = 0
      omega
/-- finished just if it is chosen or an end -/
theorem FinI.fin {n : Nat} {es : List GE} {ends O : List Nat} {ch : List (Option Nat)} (I : FinI n es ends O ch) {x : Nat} : (∃ a, ch[x]? = some (some a)) ∨ x ∈ ends ↔ x ∈ O := by
  constructor
  · rintro (⟨a, h⟩ | h)
    · exact I.mem x a h
    · exact I.en x h
  · intro h
    obtain ⟨i, hi⟩ := List.getElem?_of_mem h
    rcases I.ord i x hi with h | ⟨a, e, h1, _⟩
    · exact .inr h
    · exact .inl ⟨a, h1⟩
/-! #### what is reached -/
def Op (es : List GE) (ends : List Nat) (e : GE) : Prop := ∀ y ∈ needs e, Fn es ends y
inductive Us (es : List GE) (ends : List Nat) (s0 : Nat) : Nat → Prop
  | base (h : Fn es ends s0) : Us es ends s0 s0
  | goal {e : GE} (h : e ∈ es) (hs : Us es ends s0 e.s) (ho : Op es ends e) : Us es ends s0 e.g
  | call {e : GE} {c : Nat} (h : e ∈ es) (hs : Us es ends s0 e.s) (ho : Op es ends e) (hc : e.c = some c) : Us es ends s0 c
structure ReI (es : List GE) (ends : List Nat) (s0 : Nat) (st : Nat → Nat) (Wl : List Nat) (d : Nat) (cam cal : Nat → Prop) : Prop where
  bs : s0 ∈ Wl
  cm : ∀ x, x ∈ Wl ↔ cam x
  us : ∀ x ∈ Wl, Us es ends s0 x
  cl : ∀ q, cal q → st q ∈ Wl
  dn : ∀ x ∈ Wl.take d, ∀ e ∈ es, e.s = x → Op es ends e → e.g ∈ Wl ∧ ∀ q, e.q = some q → cal q
theorem ReI.done {es : List GE} {ends : List Nat} {s0 : Nat} {st : Nat → Nat} {Wl : List Nat} {cam cal : Nat → Prop} (hq : ∀ e ∈ es, e.c = e.q.map st) (I : ReI es ends s0 st Wl Wl.length cam cal) (x : Nat) : cam x ↔ Us es ends s0 x := by
  rw [← I.cm]
  constructor
  · exact I.us x
  · intro h
    induction h with
    | base _ => exact I.bs
    | @goal e h hs ho ih =>
      exact (I.dn e.s (by rw [List.take_length]; exact ih) e h rfl ho).1
    | @call e c h hs ho hc ih =>
      have h2 := (I.dn e.s (by rw [List.take_length]; exact ih) e h rfl ho).2
      rw [hq e h] at hc
      cases hqe : e.q with
      | none => rw [hqe] at hc; cases hc
      | some q =>
        rw [hqe] at hc
        obtain rfl := Option.some.inj hc
        exact I.cl q (h2 q hqe)
end K67

set_option Elab.async false
set_option linter.all false
set_option pp.maxSteps 900
set_option maxRecDepth 100000
set_option maxHeartbeats 4000000
namespace K67
open PySem PySem.Spec PyProof.Rows L2
/-! ### webs as charts (mathematics) -/
def stN (ns : List (Int × List Ed)) (a : Nat) : Nat := ((ns.take a).map fun n => n.1.toNat).sum
def spN (W : Web) (a : Nat) (p : Int) : Nat := stN W.ns a + p.toNat
def geOf (W : Web) (a : Nat) (e : Ed) : GE := ⟨spN W a e.p, spN W a e.t, e.c.map Int.toNat, e.c.map fun c => stN W.ns c.toNat⟩
def edsN (W : Web) (a : Nat) : List Ed := (W.ns[a]?.map (·.2)).getD []
def gesUp (W : Web) (i : Nat) : List GE := ((List.range i).map fun a => (edsN W a).map (geOf W a)).flatten
def gesOf (W : Web) : List GE := gesUp W W.ns.length
def endsOf (W : Web) : List Nat := (List.range W.ns.length).map fun a => stN W.ns (a + 1) - 1
/-- the pair is a place of the web -/
def Pl (W : Web) (a : Nat) (p : Int) : Prop := ∃ nt, W.ns[a]? = some nt ∧ 0 ≤ p ∧ p ≤ nt.1 - 1
inductive FinP (W : Web) : Nat → Int → Prop
  | end_ {a : Nat} {nt : Int × List Ed} (h : W.ns[a]? = some nt) : FinP W a (nt.1 - 1)
  | step {a : Nat} {nt : Int × List Ed} {e : Ed} (h : W.ns[a]? = some nt) (he : e ∈ nt.2) (ht : FinP W a e.t) (hc : ∀ c, e.c = some c → FinP W c.toNat 0) : FinP W a e.p
def OpP (W : Web) (a : Nat) (e : Ed) : Prop := FinP W a e.t ∧ ∀ c, e.c = some c → FinP W c.toNat 0
inductive UsP (W : Web) : Nat → Int → Prop
  | base (h : FinP W 0 0) : UsP W 0 0
  | goal {a : Nat} {nt : Int × List Ed} {e : Ed} (h : W.ns[a]? = some nt) (he : e ∈ nt.2) (hs : UsP W a e.p) (ho : OpP W a e) : UsP W a e.t
  | call {a : Nat} {nt : Int × List Ed} {e : Ed} {c : Int} (h : W.ns[a]? = some nt) (he : e ∈ nt.2) (hs : UsP W a e.p) (ho : OpP W a e) (hc : e.c = some c) : UsP W c.toNat 0
theorem st_succ {ns : List (Int × List Ed)} {a : Nat} {nt : Int × List Ed} (h : ns[a]? = some nt) : stN ns (a + 1) = stN ns a + nt.1.toNat := by
  unfold stN
  rw [List.take_succ, h, List.map_append, List.sum_append]
  simp
theorem st_zero (ns : List (Int × List Ed)) : stN ns 0 = 0 := rfl
theorem st_mono {ns : List (Int × List Ed)} {a b : Nat} (h : a ≤ b) : stN ns a ≤ stN ns b := by
  induction h with
  | refl => exact Nat.le_refl _
  | @step m _ ih =>
    refine Nat.le_trans ih ?_
    cases e : ns[m]? with
    | some nt => rw [st_succ e]; omega
    | none =>
      unfold stN
      rw [List.take_succ, e]
      simp
theorem st_all (ns : List (Int × List Ed)) : stN ns ns.length = (ns.map fun n => n.1.toNat).sum := by
  unfold stN
  rw [List.take_length]
theorem Pl.lt {W : Web} {a : Nat} {p : Int} (h : Pl W a p) : spN W a p < stN W.ns (a + 1) := by
  obtain ⟨nt, h1, h2, h3⟩ := h
  unfold spN
  rw [st_succ h1]
  omega
theorem sp_inj {W : Web} {a b : Nat} {p q : Int} (h : Pl W a p) (h' : Pl W b q) (e : spN W a p = spN W b q) : a = b ∧ p = q := by
  have l1 := h.lt
  have l2 := h'.lt
  have hab : a = b := by
    by_cases h1 : a < b
    · have := st_mono (ns := W.ns) (show a + 1 ≤ b by omega)
      unfold spN at *
      omega
    · by_cases h2 : b < a
      · have := st_mono (ns := W.ns) (show b + 1 ≤ a by omega)
        unfold spN at *
        omega
      · omega
  subst hab
  refine ⟨rfl, ?_⟩
  obtain ⟨_, _, h2, _⟩ := h
  obtain ⟨_, _, h4, _⟩ := h'
  unfold spN at e
  omega
theorem ges_mem {W : Web} {i : Nat} {g : GE} : g ∈ gesUp W i ↔ ∃ a nt e, a < i ∧ W.ns[a]? = some nt ∧ e ∈ nt.2 ∧ g = geOf W a e := by
  unfold gesUp
  rw [List.mem_flatten]
  constructor
  · rintro ⟨l, hl, hg⟩
    obtain ⟨a, ha, rfl⟩ := List.mem_map.mp hl
    obtain ⟨e, he, rfl⟩ := List.mem_map.mp hg
    unfold edsN at he
    cases h : W.ns[a]? with
    | none => rw [h] at he; cases he
    | some nt =>
      rw [h] at he
      exact ⟨a, nt, e, List.mem_range.mp ha, h, he, rfl⟩
  · rintro ⟨a, nt, e, ha, h, he, rfl⟩
    refine ⟨_, List.mem_map.mpr ⟨a, List.mem_range.mpr ha, rfl⟩, List.mem_map.mpr ⟨e, ?_, rfl⟩⟩
    unfold edsN
    rw [h]
    exact he
theorem ends_mem {W : Web} (o : OkW W) {x : Nat} : x ∈ endsOf W ↔ ∃ a nt, W.ns[a]? = some nt ∧ x = spN W a (nt.1 - 1) := by
  unfold endsOf
  rw [List.mem_map]
  constructor
  · rintro ⟨a, ha, rfl⟩
    have hn : W.ns[a]? = some (W.ns[a]'(List.mem_range.mp ha)) := List.getElem?_eq_getElem _
    generalize hnt : W.ns[a]'(List.mem_range.mp ha) = nt at hn
    refine ⟨a, nt, hn, ?_⟩
    have := o.pos nt (List.mem_of_getElem? hn)
    unfold spN
    rw [st_succ hn]
    omega
  · rintro ⟨a, nt, hn, rfl⟩
    refine ⟨a, List.mem_range.mpr (List.getElem?_eq_some_iff.mp hn).1, ?_⟩
    have := o.pos nt (List.mem_of_getElem? hn)
    unfold spN
    rw [st_succ hn]
    omega
section
variable {W : Web}
theorem pl_end (o : OkW W) {a : Nat} {nt : Int × List Ed} (h : W.ns[a]? = some nt) : Pl W a (nt.1 - 1) := ⟨nt, h, by have := o.pos nt (List.mem_of_getElem? h); omega, Int.le_refl _⟩
theorem pl_p (o : OkW W) {a : Nat} {nt : Int × List Ed} {e : Ed} (h : W.ns[a]? = some nt) (he : e ∈ nt.2) : Pl W a e.p := ⟨nt, h, by have := (o.ed nt (List.mem_of_getElem? h) e he).p; omega, by have := (o.ed nt (List.mem_of_getElem? h) e he).p; omega⟩
theorem pl_t (o : OkW W) {a : Nat} {nt : Int × List Ed} {e : Ed} (h : W.ns[a]? = some nt) (he : e ∈ nt.2) : Pl W a e.t := ⟨nt, h, by have := (o.ed nt (List.mem_of_getElem? h) e he).t; omega, by have := (o.ed nt (List.mem_of_getElem? h) e he).t; omega⟩
theorem pl_c (o : OkW W) {a : Nat} {nt : Int × List Ed} {e : Ed} {c : Int} (h : W.ns[a]? = some nt) (he : e ∈ nt.2) (hc : e.c = some c) : Pl W c.toNat 0 := by
  have := (o.ed nt (List.mem_of_getElem? h) e he).c c hc
  have hl : c.toNat < W.ns.length := by omega
  refine ⟨W.ns[c.toNat], List.getElem?_eq_getElem hl, Int.le_refl _, ?_⟩
  have := o.pos _ (List.getElem_mem hl)
  omega
theorem pl_0 (o : OkW W) : Pl W 0 0 := by
  have h1 := o.n1
  have hl : 0 < W.ns.length := by omega
  refine ⟨W.ns[0], List.getElem?_eq_getElem hl, Int.le_refl _, ?_⟩
  have := o.pos _ (List.getElem_mem hl)
  omega
theorem sp_c (c : Int) : spN W c.toNat 0 = stN W.ns c.toNat := rfl
theorem fin_to (o : OkW W) {a : Nat} {p : Int} (h : FinP W a p) : Fn (gesOf W) (endsOf W) (spN W a p) := by
  induction h with
  | @end_ a nt h => exact .end_ ((ends_mem o).mpr ⟨a, nt, h, rfl⟩)
  | @step a nt e h he ht hc iht ihc =>
    refine Fn.step (e := geOf W a e) (ges_mem.mpr ⟨a, nt, e, (List.getElem?_eq_some_iff.mp h).1, h, he, rfl⟩) fun y hy => ?_
    rcases List.mem_cons.mp (show y ∈ spN W a e.t :: (e.c.map fun c => stN W.ns c.toNat).toList from hy) with rfl | hy
    · exact iht
    · cases hce : e.c with
      | none => rw [hce] at hy; cases hy
      | some c =>
        rw [hce] at hy
        rw [List.mem_singleton.mp hy]
        exact ihc c hce
theorem fin_from (o : OkW W) {x : Nat} (h : Fn (gesOf W) (endsOf W) x) : ∀ a p, Pl W a p → x = spN W a p → FinP W a p := by
  induction h with
  | @end_ x h =>
    intro a p hp e
    obtain ⟨b, nt, hb, rfl⟩ := (ends_mem o).mp h
    obtain ⟨rfl, rfl⟩ := sp_inj hp (pl_end o hb) e.symm
    exact .end_ hb
  | @step g h hn ih =>
    intro a p hp e
    obtain ⟨b, nt, ed, hbl, hb, he, rfl⟩ := ges_mem.mp h
    obtain ⟨rfl, rfl⟩ := sp_inj hp (pl_p o hb he) e.symm
    refine .step hb he (ih (spN W a ed.t) List.mem_cons_self a ed.t (pl_t o hb he) rfl) fun c hc => ?_
    refine ih (stN W.ns c.toNat) (List.mem_cons_of_mem _ ?_) c.toNat 0 (pl_c o hb he hc) rfl
    show _ ∈ (ed.c.map fun c => stN W.ns c.toNat).toList
    rw [hc]
    exact List.mem_singleton.mpr rfl
theorem fin_iff (o : OkW W) {a : Nat} {p : Int} (hp : Pl W a p) : Fn (gesOf W) (endsOf W) (spN W a p) ↔ FinP W a p := ⟨fun h => fin_from o h a p hp rfl, fin_to o⟩
theorem op_iff (o : OkW W) {a : Nat} {nt : Int × List Ed} {e : Ed} (h : W.ns[a]? = some nt) (he : e ∈ nt.2) : Op (gesOf W) (endsOf W) (geOf W a e) ↔ OpP W a e := by
  constructor
  · intro z
    refine ⟨(fin_iff o (pl_t o h he)).mp (z _ List.mem_cons_self), fun c hc => (fin_iff o (pl_c o h he hc)).mp (z _ (List.mem_cons_of_mem _ ?_))⟩
    show _ ∈ (e.c.map fun c => stN W.ns c.toNat).toList
    rw [hc]
    exact List.mem_singleton.mpr rfl
  · rintro ⟨z1, z2⟩ y hy
    rcases List.mem_cons.mp (show y ∈ spN W a e.t :: (e.c.map fun c => stN W.ns c.toNat).toList from hy) with rfl | hy
    · exact (fin_iff o (pl_t o h he)).mpr z1
    · cases hce : e.c with
      | none => rw [hce] at hy; cases hy
      | some c =>
        rw [hce] at hy
        rw [List.mem_singleton.mp hy]
        exact (fin_iff o (pl_c o h he hce)).mpr (z2 c hce)
theorem us_to (o : OkW W) {a : Nat} {p : Int} (h : UsP W a p) : Us (gesOf W) (endsOf W) 0 (spN W a p) := by
  induction h with
  | base h => exact .base (fin_to o h)
  | @goal a nt e h he hs ho ih => exact Us.goal (e := geOf W a e) (ges_mem.mpr ⟨a, nt, e, (List.getElem?_eq_some_iff.mp h).1, h, he, rfl⟩) ih ((op_iff o h he).mpr ho)
  | @call a nt e c h he hs ho hc ih => exact Us.call (e := geOf W a e) (ges_mem.mpr ⟨a, nt, e, (List.getElem?_eq_some_iff.mp h).1, h, he, rfl⟩) ih ((op_iff o h he).mpr ho) (by show (e.c.map fun c => stN W.ns c.toNat) = _; rw [hc]; rfl)
theorem us_from (o : OkW W) {x : Nat} (h : Us (gesOf W) (endsOf W) 0 x) : ∀ a p, Pl W a p → x = spN W a p → UsP W a p := by
  induction h with
  | base h =>
    intro a p hp e
    obtain ⟨rfl, rfl⟩ := sp_inj hp (pl_0 o) e.symm
    exact .base ((fin_iff o (pl_0 o)).mp h)
  | @goal g h hs ho ih =>
    intro a p hp e
    obtain ⟨b, nt, ed, hbl, hb, he, rfl⟩ := ges_mem.mp h
    obtain ⟨rfl, rfl⟩ := sp_inj hp (pl_t o hb he) e.symm
    exact .goal hb he (ih a ed.p (pl_p o hb he) rfl) ((op_iff o hb he).mp ho)
  | @call g c h hs ho hc ih =>
    intro a p hp e
    obtain ⟨b, nt, ed, hbl, hb, he, rfl⟩ := ges_mem.mp h
    have hc : (ed.c.map fun c => stN W.ns c.toNat) = some c := hc
    cases hce : ed.c with
    | none => rw [hce] at hc; cases hc
    | some z =>
      rw [hce] at hc
      obtain rfl := Option.some.inj hc
      obtain ⟨rfl, rfl⟩ := sp_inj hp (pl_c o hb he hce) e.symm
      exact .call hb he (ih b ed.p (pl_p o hb he) rfl) ((op_iff o hb he).mp ho) hce
theorem us_iff (o : OkW W) {a : Nat} {p : Int} (hp : Pl W a p) : Us (gesOf W) (endsOf W) 0 (spN W a p) ↔ UsP W a p := ⟨fun h => us_from o h a p hp rfl, us_to o⟩
theorem UsP.pl (o : OkW W) {a : Nat} {p : Int} (h : UsP W a p) : Pl W a p := by
  cases h with
  | base _ => exact pl_0 o
  | goal h he _ _ => exact pl_t o h he
  | call h he _ _ hc => exact pl_c o h he hc
theorem FinP.pl (o : OkW W) {a : Nat} {p : Int} (h : FinP W a p) : Pl W a p := by
  cases h with
  | end_ h => exact pl_end o h
  | step h he _ _ => exact pl_p o h he
end
end K67

set_option Elab.async false
set_option linter.all false
set_option pp.maxSteps 900
set_option maxRecDepth 100000
set_option maxHeartbeats 4000000
namespace K67
open PySem PySem.Spec PyProof.Rows L2
open TL (tl)
abbrev sRd : Stmt := top 44
/-! ### the law's roads: a dict, whatever is in it -/
def UK : List (List Key) := (List.range 400).flatMap fun a => (List.range 4000).map fun p => [Sum.inl ((a : Nat) : Int), Sum.inl ((p : Nat) : Int)]
def pK (a p : Int) : List Key := [Sum.inl a, Sum.inl p]
theorem uk_mem {a p : Int} (ha : 0 ≤ a ∧ a < 400) (hp : 0 ≤ p ∧ p < 4000) : pK a p ∈ UK := by
  refine List.mem_flatMap.mpr ⟨a.toNat, List.mem_range.mpr (by omega), List.mem_map.mpr ⟨p.toNat, List.mem_range.mpr (by omega), ?_⟩⟩
  unfold pK
  rw [Int.toNat_of_nonneg ha.1, Int.toNat_of_nonneg hp.1]
theorem uk_len : UK.length = 1600000 := by
  unfold UK
  rw [List.length_flatMap]
  have : ∀ n : Nat, ((List.range n).map fun _ => (4000 : Nat)).sum = n * 4000 := by
    intro n
    induction n with
    | zero => rfl
    | succ n ih => rw [List.range_succ, List.map_append, List.sum_append, ih]; simp; omega
  simp only [List.length_map, List.length_range]
  exact this 400
def ms (kvs : List (List Key × V)) : Nat := UK.countP fun k => (valV kvs k).isNone
theorem ms_le (kvs : List (List Key × V)) : ms kvs ≤ 1600000 := by
  rw [← uk_len]
  exact List.countP_le_length
theorem count_lt {α : Type} {p q : α → Bool} {k : α} : ∀ {l : List α}, (∀ x ∈ l, p x = true → q x = true) → k ∈ l → q k = true → p k = false → l.countP p < l.countP q
  | [], _, h, _, _ => by cases h
  | x :: l, hpq, h, hq, hp => by
    rw [List.countP_cons, List.countP_cons]
    have hle : l.countP p ≤ l.countP q := List.countP_mono_left fun y hy => hpq y (List.mem_cons_of_mem _ hy)
    rcases List.mem_cons.mp h with rfl | h
    · rw [hp, hq]
      simp
      omega
    · have := count_lt (fun y hy => hpq y (List.mem_cons_of_mem _ hy)) h hq hp
      have hx := hpq x List.mem_cons_self
      cases e : p x with
      | false => simp; omega
      | true => rw [hx e]; simp; omega
theorem ms_put {kvs : List (List Key × V)} {k : List Key} {v : V} (hk : k ∈ UK) (h : valV kvs k = none) : ms (putK kvs k v) < ms kvs := by
  refine count_lt (k := k) (fun x _ hx => ?_) hk (by rw [h] <;> rfl) (by rw [valV_put, if_pos rfl] <;> rfl)
  rw [valV_put] at hx
  by_cases e : x = k
  · rw [if_pos e] at hx
    cases hx
  · rw [if_neg e] at hx
    exact hx
theorem putK_le {κ : Type} [DecidableEq κ] (kvs : List (κ × V)) (k : κ) (v : V) : (putK kvs k v).length ≤ kvs.length + 1 := by
  unfold putK
  split <;> simp
theorem pK_inj {a b p q : Int} (h : pK a p = pK b q) : a = b ∧ p = q := by
  unfold pK at h
  injection h with h1 h2
  injection h2 with h2 _
  injection h1 with h1
  injection h2 with h2
  exact ⟨h1, h2⟩
/-- the value of a road to an end -/
def zs (xs ys : List Int) : List Int := List.zipWith (fun a b => a + 1 * b) xs ys
def zer (W : Web) : List Int := List.replicate (W.lb.toNat + 1) 0
inductive RV (W : Web) : Nat → Int → List Int → Prop
  | end_ {a : Nat} {nt : Int × List Ed} (h : W.ns[a]? = some nt) : RV W a (nt.1 - 1) (zer W)
  | step {a : Nat} {nt : Int × List Ed} {e : Ed} {xc xt : List Int} (h : W.ns[a]? = some nt) (he : e ∈ nt.2) (ht : RV W a e.t xt) (hc : ∀ c, e.c = some c → RV W c.toNat 0 xc) (h0 : e.c = none → xc = zer W) : RV W a e.p (zs (zs (own W.lb e) xc) xt)
/-- what the dict holds -/
def RdOk (W : Web) (H : Hp) (kvs : List (List Key × V)) : Prop := ∀ k v, valV kvs k = some v → ∃ (r : Addr) (xs : List Int), v = .ref r ∧ H r = some (.lst (xs.map V.int)) ∧ xs.length = W.lb.toNat + 1 ∧ ∀ (a : Nat) (p : Int), k = pK (a : Nat) p → RV W a p xs
theorem RdOk.keep {W : Web} {H H' : Hp} {kvs : List (List Key × V)} (h : RdOk W H kvs) (s : Same H H') : RdOk W H' kvs := fun k v e => by
  obtain ⟨r, xs, h1, h2, h3⟩ := h k v e
  exact ⟨r, xs, h1, s _ _ h2, h3⟩
theorem RdOk.put {W : Web} {H : Hp} {kvs kvs' : List (List Key × V)} {f r : Addr} {k : List Key} {xs : List Int} (h : RdOk W H kvs) (hf : H f = some (.dT kvs')) (hr : H r = some (.lst (xs.map V.int))) (hl : xs.length = W.lb.toNat + 1) (hv : ∀ (a : Nat) (p : Int), k = pK (a : Nat) p → RV W a p xs) :
    RdOk W (upd H f (.dT (putK kvs k (.ref r)))) (putK kvs k (.ref r)) := fun j v e => by
  have ne : ∀ {q : Addr} {ys : List V}, H q = some (.lst ys) → q ≠ f := fun e z => by
    rw [z, hf] at e
    cases e
  rw [valV_put] at e
  by_cases ej : j = k
  · rw [if_pos ej] at e
    obtain rfl := Option.some.inj e
    exact ⟨r, xs, rfl, by rw [upd_ne (ne hr)]; exact hr, hl, fun a p e => hv a p (ej.symm.trans e)⟩
  · rw [if_neg ej] at e
    obtain ⟨q, ys, h1, h2, h3⟩ := h j v e
    exact ⟨q, ys, h1, by rw [upd_ne (ne h2)]; exact h2, h3⟩
/-- the dict's keys are the places that lead to an end -/
structure RdF (W : Web) (kvs : List (List Key × V)) : Prop where
  so : ∀ k v, valV kvs k = some v → ∃ (a : Nat) (p : Int), k = pK (a : Nat) p ∧ FinP W a p
  co : ∀ (a : Nat) (p : Int), FinP W a p → (valV kvs (pK (a : Nat) p)).isSome = true
def Sou (W : Web) (kvs : List (List Key × V)) : Prop := ∀ k v, valV kvs k = some v → ∃ (a : Nat) (p : Int), k = pK (a : Nat) p ∧ FinP W a p
def Ens (W : Web) (i : Nat) (kvs : List (List Key × V)) : Prop := ∀ (a : Nat) (nt : Int × List Ed), a < i → W.ns[a]? = some nt → (valV kvs (pK (a : Nat) (nt.1 - 1))).isSome = true
def CloE (kvs : List (List Key × V)) (a : Nat) (e : Ed) : Prop := (valV kvs (pK (a : Nat) e.t)).isSome = true → (∀ c, e.c = some c → (valV kvs (pK c 0)).isSome = true) → (valV kvs (pK (a : Nat) e.p)).isSome = true
def CloU (W : Web) (kvs : List (List Key × V)) (i j : Nat) : Prop := ∀ (a k : Nat) (nt : Int × List Ed) (e : Ed), W.ns[a]? = some nt → nt.2[k]? = some e → a < i ∨ (a = i ∧ k < j) → CloE kvs a e
theorem Sou.put {W : Web} {kvs : List (List Key × V)} {a : Nat} {p : Int} {v : V} (h : Sou W kvs) (hf : FinP W a p) : Sou W (putK kvs (pK (a : Nat) p) v) := fun k u e => by
  rw [valV_put] at e
  by_cases ek : k = pK (a : Nat) p
  · exact ⟨a, p, ek, hf⟩
  · rw [if_neg ek] at e
    exact h k u e
theorem put_some {kvs : List (List Key × V)} {k j : List Key} {v : V} (h : (valV kvs k).isSome = true) : (valV (putK kvs j v) k).isSome = true := by
  rw [valV_put]
  by_cases e : k = j
  · rw [if_pos e] <;> rfl
  · rw [if_neg e]
    exact h
theorem put_self {kvs : List (List Key × V)} {j : List Key} {v : V} : (valV (putK kvs j v) j).isSome = true := by
  rw [valV_put, if_pos rfl] <;> rfl
theorem RdF.of {W : Web} (o : OkW W) {kvs : List (List Key × V)} (h1 : Sou W kvs) (h2 : Ens W W.ns.length kvs) (h3 : CloU W kvs W.ns.length 0) : RdF W kvs := by
  refine ⟨h1, fun a p h => ?_⟩
  induction h with
  | @end_ a nt h => exact h2 a nt (List.getElem?_eq_some_iff.mp h).1 h
  | @step a nt e h he ht hc iht ihc =>
    obtain ⟨k, hk⟩ := List.getElem?_of_mem he
    refine h3 a k nt e h hk (.inl (List.getElem?_eq_some_iff.mp h).1) iht fun c hce => ?_
    have hcc := (o.ed nt (List.mem_of_getElem? h) e he).c c hce
    have := ihc c hce
    rw [Int.toNat_of_nonneg hcc.1] at this
    exact this
def spRd : Sp := fun vs H Q _ => ∃ (g : Addr) (vw : V) (W : Web), vs = [vw] ∧ DV g H vw (wbD W) ∧ OkW W ∧
  ∀ (f : Addr) (kvs : List (List Key × V)) (H' : Hp), Same H H' → H f = none → H' f = some (.dT kvs) → RdOk W H' kvs → RdF W kvs → kvs.length ≤ 2000000 → Q (.ref f) H'
theorem sum_pos : ∀ {l : List Int} {x : Int}, (∀ y ∈ l, 1 ≤ y) → x ∈ l → x ≤ l.sum
  | [], _, _, h => by cases h
  | y :: l, x, hp, h => by
    rw [List.sum_cons]
    have h0 : 0 ≤ l.sum := by
      clear h
      induction l with
      | nil => exact Int.le_refl _
      | cons z l ih =>
        rw [List.sum_cons]
        have := hp z (by simp)
        have := ih fun w hw => hp w (by
          rcases List.mem_cons.mp hw with rfl | hw
          · exact List.mem_cons_self
          · exact List.mem_cons_of_mem _ (List.mem_cons_of_mem _ hw))
        omega
    rcases List.mem_cons.mp h with rfl | h
    · omega
    · have := sum_pos (fun w hw => hp w (List.mem_cons_of_mem _ hw)) h
      have := hp y List.mem_cons_self
      omega
theorem OkW.pl {W : Web} (o : OkW W) {n : Int × List Ed} (h : n ∈ W.ns) : n.1 ≤ 4000 := by
  have := sum_pos (l := W.ns.map (·.1)) (x := n.1) (fun y hy => by
    obtain ⟨m, hm, rfl⟩ := List.mem_map.mp hy
    exact o.pos m hm) (List.mem_map.mpr ⟨n, h, rfl⟩)
  have := o.sp
  omega
theorem rep_flat {lb : Int} (h : 0 ≤ lb) : (List.replicate (lb + 1).toNat [V.int 0]).flatten = (List.replicate (lb.toNat + 1) (0 : Int)).map V.int := by
  rw [show (lb + 1).toNat = lb.toNat + 1 by omega]
  generalize lb.toNat + 1 = m
  induction m with
  | zero => rfl
  | succ m ih => rw [List.replicate_succ, List.flatten_cons, ih, List.replicate_succ, List.map_cons]; rfl
section
variable {P : Program} {w : World} {K : PySem.W.Frag} {mg : Str → Option Value} {base : Heap}
theorem scRd : FnScope ["web", "found", "more", "at", "net", "edge", "known", "inner"] ["web"] (defScope sRd) := ⟨rfl, rfl, rfl, by decide +kernel, rfl, by decide +kernel, by decide +kernel⟩
theorem ok_rd {f : Addr} {fd : FuncData} (F : Fun K "_law_wb_roads" "_law_wb_roads" sRd f fd) (T : Bn mg) (cSum : Cl P w K mg base "_law_wb_sum" ["one", "other", "times"] 1 spSum) (cOwn : Cl P w K mg base "_law_wb_own" ["web", "edge"] 1 spOwn) :
    FnOk P w K mg base CX0 2 f fd ["web"] spRd := by
  obtain ⟨fSum, fdSum, GSum, mSum, kSum, bSum⟩ := cSum
  obtain ⟨fOwn, fdOwn, GOwn, mOwn, kOwn, bOwn⟩ := cOwn
  refine F.ok scRd (fun vs H Q E h => ?_) (fun cdv A outer s H vs Q E hr h => ?_)
  · obtain ⟨g, a, b, rfl, _⟩ := h
    rfl
  · obtain ⟨g, vw, W, rfl, hw, okw, k⟩ := h
    have hu := hu_of hr
    refine ⟨_, (pss_cons (ps_par (i := 1) (j := 2) (by rfl) scRd.nd rfl rfl (by decide) rfl rfl (pa_cons pe_dnewT (pa_cons pe_bl pa_nil)) (by rfl))
      (pss_cons (ps_for PassesOwn.never rfl (pi_enumT (by rfl) T.enu (pa_cons (pe_ix ix_tup (pv 0) pe_int (fun _ _ => rfl)) pa_nil)) (pg_tup (by rfl) (pgs_cons (pg_name (i := 3) scRd.nd rfl (Or.inl rfl)) (pgs_cons (pg_name (i := 4) scRd.nd rfl (Or.inl rfl)) pgs_nil)))
          (pss_one (ps_dput hu (pv 1) (pe_tup (pa_cons (pv 3) (pa_cons (pe_op op_sub (pe_ix ix_tup (pv 4) pe_int (fun _ _ => rfl)) pe_int) pa_nil))) (pe_op op_rep (pe_lst (pa_cons pe_int pa_nil)) (pe_op op_add (pe_ix ix_tup (pv 0) pe_int (fun _ _ => rfl)) pe_int)) rfl)))
      (pss_cons (ps_while PassesOwn.never (pt_val (pv 2))
          (pss_cons (ps_set (i := 2) scRd.nd rfl (Or.inl rfl) pe_bl)
          (pss_one (ps_for PassesOwn.never rfl (pi_enumT (by rfl) T.enu (pa_cons (pe_ix ix_tup (pv 0) pe_int (fun _ _ => rfl)) pa_nil)) (pg_tup (by rfl) (pgs_cons (pg_name (i := 3) scRd.nd rfl (Or.inl rfl)) (pgs_cons (pg_name (i := 4) scRd.nd rfl (Or.inl rfl)) pgs_nil)))
              (pss_one (ps_for PassesOwn.never rfl (pi_tup (pe_ix ix_tup (pv 4) pe_int (fun _ _ => rfl))) (pg_name (i := 5) scRd.nd rfl (Or.inl rfl))
                  (pss_mid (ps_set (i := 6) scRd.nd rfl (Or.inl rfl) (pe_and (pe_cmp (pc_din hu (pe_tup (pa_cons (pv 3) (pa_cons (pe_ix ix_tup (pv 5) pe_int (fun _ _ => rfl)) pa_nil))) (pv 1)) rfl) (pe_one (pe_or (pe_cmpR op_isN (pe_ix ix_tup (pv 5) pe_int (fun _ _ => rfl)) pe_non (nomark _)) (pe_one (pe_cmp (pc_din hu (pe_tup (pa_cons (pe_ix ix_tup (pv 5) pe_int (fun _ _ => rfl)) (pa_cons pe_int pa_nil))) (pv 1)) rfl))))))
                  (pss_one (ps_if (PW.pt (pw_and (pt_val (pv 6)) (pw_and1 (pt_cmp (pc_dnotin hu (pe_tup (pa_cons (pv 3) (pa_cons (pe_ix ix_tup (pv 5) pe_int (fun _ _ => rfl)) pa_nil))) (pv 1)))))) (pss_mid (ps_set (i := 7) scRd.nd rfl (Or.inl rfl) (pe_ifExp (pt_cmpR op_isN (pe_ix ix_tup (pv 5) pe_int (fun _ _ => rfl)) pe_non (nomark _)) (pe_op op_rep (pe_lst (pa_cons pe_int pa_nil)) (pe_op op_add (pe_ix ix_tup (pv 0) pe_int (fun _ _ => rfl)) pe_int)) (pe_dget hu (pv 1) (pe_tup (pa_cons (pe_ix ix_tup (pv 5) pe_int (fun _ _ => rfl)) (pa_cons pe_int pa_nil))) (fun _ _ => rfl))))
                      (pss_cons (ps_dput hu (pv 1) (pe_tup (pa_cons (pv 3) (pa_cons (pe_ix ix_tup (pv 5) pe_int (fun _ _ => rfl)) pa_nil))) (pe_call GSum hr (by rfl) mSum kSum bSum .nil pass0 (pa_cons (pe_call GSum hr (by rfl) mSum kSum bSum .nil pass0 (pa_cons (pe_call GOwn hr (by rfl) mOwn kOwn bOwn .nil pass0 (pa_cons (pv 0) (pa_cons (pv 5) pa_nil))) (pa_cons (pv 7) (pa_cons pe_int pa_nil)))) (pa_cons (pe_dget hu (pv 1) (pe_tup (pa_cons (pv 3) (pa_cons (pe_ix ix_tup (pv 5) pe_int (fun _ _ => rfl)) pa_nil))) (fun _ _ => rfl)) (pa_cons pe_int pa_nil)))) rfl)
                      (pss_one (ps_set (i := 2) scRd.nd rfl (Or.inl rfl) pe_bl)))) pss_nil)))))))))
      (pss_one (ps_ret (pv 1)))))), ?_⟩
    obtain ⟨b0, c0, xn, rfl, eb0, ec0, rn⟩ := wb_at hw
    have hnl : xn.length = W.ns.length := by rw [rn.len, List.length_map]
    have hlb := okw.lb
    refine fun fD hfD => ?_
    generalize hH1 : upd H fD _ = H1
    obtain ⟨sfD, efD⟩ := freshF hfD hH1
    refine ⟨_, _, rfl, ?_⟩
    refine ⟨_, rfl, b0, _, 1, _, rfl, rfl, SqT.of (sfD _ _ eb0), atI_nat (j := 1) rfl, c0, xn, rfl, SqT.of (sfD _ _ ec0), ?_⟩
    refine for_it (walk_enumT (K := K) (a := c0) (xs := xn)) (fun i σ H' => ∃ (kvs : List (List Key × V)) (v3 v4 v5 v6 v7 : Option V), σ = [some (.ref b0), some (.ref fD), some (.bl true), v3, v4, v5, v6, v7] ∧ Same H H' ∧ H' fD = some (.dT kvs) ∧ RdOk W H' kvs ∧ kvs.length ≤ i ∧ Sou W kvs ∧ Ens W i kvs)
      ⟨[], _, _, _, _, _, rfl, sfD, efD, (fun k v e => by cases e), Nat.le_refl _, (fun k v e => by cases e), fun a nt h _ => absurd h (Nat.not_lt_zero _)⟩ (fun i σ H' _ ⟨_, _, _, _, _, _, _, s, _⟩ => SqT.of (s _ _ ec0)) ?_ ?_
    · rintro i x σ H2 H2z hi ⟨kvs, v3, v4, v5, v6, v7, rfl, s2, ef2, hk2, hl2, hsou, hens⟩ ⟨T0, x', y, rfl, hT, hH2, hx, hy⟩
      obtain rfl := Option.some.inj hx
      obtain ⟨sT, eT⟩ := freshF hT hH2.symm
      obtain ⟨dn, hdn, hyd⟩ := rn.at_ hy
      rw [List.getElem?_map] at hdn
      obtain ⟨nt, hnt, rfl⟩ := Option.map_eq_some_iff.mp hdn
      obtain ⟨b3, c3, xe, rfl, eb3, ec3, re⟩ := nt_at hyd
      have s2' := s2.trans sT
      refine ⟨T0, _, rfl, SqT.of eT, (by rfl), _, _, rfl, _, _, rfl, rfl, ?_⟩
      refine ⟨(by show 1 ≤ sizeLine; decide), fun z1 hz1 => ?_⟩
      generalize hH3 : upd H2z z1 _ = H3
      obtain ⟨sz1, ez1⟩ := freshF hz1 hH3
      have s03 := s2'.trans sz1
      refine ⟨_, rfl, b0, _, 0, _, rfl, rfl, SqT.of (s03 _ _ eb0), atI_nat (j := 0) rfl, _, _, rfl, rfl, z1, W.lb + 1, [.int 0], rfl, rfl, ez1, (by omega), (by omega), (by show 1 * (W.lb + 1).toNat ≤ sizeLine; rw [sizeLine_eq]; omega), fun z2 hz2 => ?_⟩
      generalize hH4 : upd H3 z2 _ = H4
      obtain ⟨sz2, ez2⟩ := freshF hz2 hH4
      have s04 := s03.trans sz2
      have s24 := sT.trans (sz1.trans sz2)
      rw [rep_flat hlb.1] at ez2
      refine ⟨_, rfl, _, rfl, _, rfl, b3, _, 0, _, rfl, rfl, SqT.of (s04 _ _ eb3), atI_nat (j := 0) rfl, _, _, rfl, rfl, (by show 2 ≤ sizeLine; decide), fun t ht => ?_⟩
      generalize hH5 : upd H4 t _ = H5
      obtain ⟨st, et⟩ := freshF ht hH5
      have ef5 := st _ _ (s24 _ _ ef2)
      have hil : i < W.ns.length := by rw [← hnl]; exact hi
      have hn4 := okw.n4
      refine ⟨fD, _, rfl, DPut.t (k := pK i (nt.1 - 1)) ef5 et (by rw [sizeLine_eq]; omega), ?_⟩
      refine ⟨_, _, _, _, _, _, rfl, fun b o e => ?_, upd_same, (hk2.keep (s24.trans st)).put ef5 (st _ _ ez2) List.length_replicate (fun a p e => by
        obtain ⟨h1, rfl⟩ := pK_inj e
        obtain rfl : i = a := by omega
        exact .end_ hnt), ?_, hsou.put (.end_ hnt), fun a nt' ha hnt' => ?_⟩
      · rw [upd_ne (ne_of_none e hfD)]
        exact st _ _ (s04 _ _ e)
      · have := putK_le kvs (pK i (nt.1 - 1)) (.ref z2)
        omega
      · by_cases hai : a = i
        · subst hai
          obtain rfl := Option.some.inj (hnt.symm.trans hnt')
          exact put_self
        · exact put_some (hens a nt' (by omega) hnt')
    rintro σ H2 ⟨kvs0, v3, v4, v5, v6, v7, rfl, s2, ef2, hk2, hl2, hsou, hens⟩
    rw [hnl] at hens
    refine while_m (fun m σ H' => ∃ (kvs : List (List Key × V)) (more : Bool) (v3 v4 v5 v6 v7 : Option V), σ = [some (.ref b0), some (.ref fD), some (.bl more), v3, v4, v5, v6, v7] ∧ m = 2 * ms kvs + more.toNat ∧ Same H H' ∧ H' fD = some (.dT kvs) ∧ RdOk W H' kvs ∧ kvs.length + ms kvs ≤ 2000000 ∧ Sou W kvs ∧ Ens W W.ns.length kvs ∧ (more = false → CloU W kvs W.ns.length 0)) (2 * ms kvs0 + 1)
      ⟨kvs0, true, _, _, _, _, _, rfl, rfl, s2, ef2, hk2, (by have := ms_le kvs0; have := okw.n4; omega), hsou, hens, fun h => by cases h⟩ ?_
    clear s2 ef2 hk2 hl2 hsou hens kvs0 v3 v4 v5 v6 v7 H2
    rintro m σ H2 ⟨kvs, more, v3, v4, v5, v6, v7, rfl, hm, s2, ef2, hk2, hl2, hsou, hens, hclo⟩
    refine ⟨_, rfl, _, rfl, ?_⟩
    cases more with
    | false => exact ifF rfl ⟨_, rfl, k fD kvs H2 s2 hfD ef2 hk2 (.of okw hsou hens (hclo rfl)) (by omega)⟩
    | true =>
    refine ifT rfl ?_
    refine ⟨fun σ' H' => ∃ m', m' < m ∧ ∃ (kvs : List (List Key × V)) (more : Bool) (v3 v4 v5 v6 v7 : Option V), σ' = [some (.ref b0), some (.ref fD), some (.bl more), v3, v4, v5, v6, v7] ∧ m' = 2 * ms kvs + more.toNat ∧ Same H H' ∧ H' fD = some (.dT kvs) ∧ RdOk W H' kvs ∧ kvs.length + ms kvs ≤ 2000000 ∧ Sou W kvs ∧ Ens W W.ns.length kvs ∧ (more = false → CloU W kvs W.ns.length 0), fun σ' H' z => z, ?_⟩
    refine ⟨_, rfl, b0, _, 1, _, rfl, rfl, SqT.of (s2 _ _ eb0), atI_nat (j := 1) rfl, c0, xn, rfl, SqT.of (s2 _ _ ec0), ?_⟩
    have hm : m = 2 * ms kvs + 1 := hm
    -- one walk over all edges
    have inv : ∃ Iv : Nat → Nat → L2.St → Hp → Prop, Iv = fun i j σ H' => ∃ (kvs' : List (List Key × V)) (mr : Bool) (v3 v4 v5 v6 v7 : Option V), σ = [some (.ref b0), some (.ref fD), some (.bl mr), v3, v4, v5, v6, v7] ∧ Same H H' ∧ H' fD = some (.dT kvs') ∧ RdOk W H' kvs' ∧ kvs'.length + ms kvs' ≤ 2000000 ∧ ms kvs' + mr.toNat ≤ ms kvs ∧ Sou W kvs' ∧ Ens W W.ns.length kvs' ∧ (mr = false → kvs' = kvs ∧ CloU W kvs i j) := ⟨_, rfl⟩
    obtain ⟨Iv, hIv⟩ := inv
    have mk : ∀ {i j : Nat} {σ : L2.St} {H' : Hp}, (∃ (kvs' : List (List Key × V)) (mr : Bool) (v3 v4 v5 v6 v7 : Option V), σ = [some (.ref b0), some (.ref fD), some (.bl mr), v3, v4, v5, v6, v7] ∧ Same H H' ∧ H' fD = some (.dT kvs') ∧ RdOk W H' kvs' ∧ kvs'.length + ms kvs' ≤ 2000000 ∧ ms kvs' + mr.toNat ≤ ms kvs ∧ Sou W kvs' ∧ Ens W W.ns.length kvs' ∧ (mr = false → kvs' = kvs ∧ CloU W kvs i j)) → Iv i j σ H' := fun h => by rw [hIv]; exact h
    have un : ∀ {i j : Nat} {σ : L2.St} {H' : Hp}, Iv i j σ H' → (∃ (kvs' : List (List Key × V)) (mr : Bool) (v3 v4 v5 v6 v7 : Option V), σ = [some (.ref b0), some (.ref fD), some (.bl mr), v3, v4, v5, v6, v7] ∧ Same H H' ∧ H' fD = some (.dT kvs') ∧ RdOk W H' kvs' ∧ kvs'.length + ms kvs' ≤ 2000000 ∧ ms kvs' + mr.toNat ≤ ms kvs ∧ Sou W kvs' ∧ Ens W W.ns.length kvs' ∧ (mr = false → kvs' = kvs ∧ CloU W kvs i j)) := fun h => by rw [hIv] at h; exact h
    clear hIv
    refine for_it (walk_enumT (K := K) (a := c0) (xs := xn)) (fun i σ H' => Iv i 0 σ H') (mk ⟨kvs, false, _, _, _, _, _, rfl, s2, ef2, hk2, hl2, Nat.le_refl _, hsou, hens, fun _ => ⟨rfl, fun a k nt e _ _ h => by omega⟩⟩) (fun i σ H' _ h => by
      obtain ⟨_, _, _, _, _, _, _, _, s, _⟩ := un h
      exact SqT.of (s _ _ ec0)) ?_ ?_
    · rintro i x σ H3 H3z hi h ⟨T0, x', y, rfl, hT, hH3, hx, hy⟩
      obtain ⟨kvs', mr, v3, v4, v5, v6, v7, rfl, s3, ef3, hk3, hl3, hms, hso3, hen3, hcl3⟩ := un h
      obtain rfl := Option.some.inj hx
      obtain ⟨sT, eT⟩ := freshF hT hH3.symm
      obtain ⟨dn, hdn, hyd⟩ := rn.at_ hy
      rw [List.getElem?_map] at hdn
      obtain ⟨nt, hnt, rfl⟩ := Option.map_eq_some_iff.mp hdn
      obtain ⟨b3, c3, xe, rfl, eb3, ec3, re⟩ := nt_at hyd
      have s3' := s3.trans sT
      have hxe : xe.length = nt.2.length := by rw [re.len, List.length_map]
      refine ⟨T0, _, rfl, SqT.of eT, (by rfl), _, _, rfl, _, _, rfl, rfl, ?_⟩
      refine ⟨_, rfl, b3, _, 1, _, rfl, rfl, SqT.of (s3' _ _ eb3), atI_nat (j := 1) rfl, c3, rfl, ⟨_, SqT.of (s3' _ _ ec3)⟩, ?_⟩
      refine for_it (walk_tup (K := K) (a := c3) (xs := xe)) (fun j σ H' => Iv i j σ H' ∧ σ[3]? = some (some (.int (i : Nat)))) ⟨mk ⟨kvs', mr, _, _, _, _, _, rfl, s3', sT _ _ ef3, hk3.keep sT, hl3, hms, hso3, hen3, hcl3⟩, rfl⟩ (fun j σ H' _ h => by
        obtain ⟨_, _, _, _, _, _, _, _, s, _⟩ := un h.1
        exact SqT.of (s _ _ ec3)) ?_ ?_
      rotate_left
      · rintro σ H' ⟨h, _⟩
        obtain ⟨kvs', mr, v3, v4, v5, v6, v7, rfl, s3, ef3, hk3, hl3, hms, hso3, hen3, hcl3⟩ := un h
        refine mk ⟨kvs', mr, _, _, _, _, _, rfl, s3, ef3, hk3, hl3, hms, hso3, hen3, fun hm => ⟨(hcl3 hm).1, fun a k nt' e h1 h2 h3 => ?_⟩⟩
        refine (hcl3 hm).2 a k nt' e h1 h2 ?_
        by_cases ha : a = i
        · refine .inr ⟨ha, ?_⟩
          subst ha
          obtain rfl := Option.some.inj (hnt.symm.trans h1)
          rw [hxe]
          exact (List.getElem?_eq_some_iff.mp h2).1
        · exact .inl (by omega)
      clear hms hl3 hk3 ef3 s3 h v3 v4 v5 v6 v7 s3' hso3 hen3 hcl3
      rintro j x σ H4 H4z hj ⟨h, h3⟩ ⟨rfl, hx⟩
      obtain ⟨kvs', mr, v3, v4, v5, v6, v7, rfl, s4, ef4, hk4, hl4, hms, hso4, hen4, hcl4⟩ := un h
      obtain rfl := Option.some.inj h3
      obtain ⟨de, hde, hxd⟩ := re.at_ hx
      rw [List.getElem?_map] at hde
      obtain ⟨e, he, rfl⟩ := Option.map_eq_some_iff.mp hde
      obtain ⟨be, ae, rfl, ebe, xl, eae, rl⟩ := ed_at hxd
      have hoe := okw.ed nt (List.mem_of_getElem? hnt) e (List.mem_of_getElem? he)
      have ebe4 := s4 _ _ ebe
      refine ⟨fun σ H' => ∃ b : Bool, σ = [some (.ref b0), some (.ref fD), some (.bl mr), some (.int (i : Nat)), v4, some (.ref be), some (.bl b), v7] ∧ Same H4z H' ∧ (b = true → (valV kvs' (pK i e.t)).isSome = true ∧ ∀ c, e.c = some c → (valV kvs' (pK c 0)).isSome = true) ∧ (b = false → CloE kvs' i e), ?_, ?_⟩
      · refine ⟨_, rfl, _, rfl, be, _, 1, _, rfl, rfl, SqT.of ebe4, atI_nat (j := 1) rfl, (by show 2 ≤ sizeLine; decide), fun t ht => ?_⟩
        generalize hH5 : upd H4z t _ = H5
        obtain ⟨st, et⟩ := freshF ht hH5
        refine ⟨_, rfl, fD, _, rfl, DGet.t (k := pK i e.t) (st _ _ ef4) et, _, rfl, ?_⟩
        cases h1 : (valV kvs' (pK i e.t)).isSome with
        | false => exact ⟨false, rfl, st, (fun h => by cases h), fun _ h => by rw [h1] at h; cases h⟩
        | true =>
          refine iteT ⟨_, rfl, be, _, 2, _, rfl, rfl, SqT.of (st _ _ ebe4), atI_nat (j := 2) rfl, rfl, _, rfl, ?_⟩
          cases hc : e.c with
          | none => exact ⟨true, rfl, st, (fun _ => ⟨rfl, fun c h => by cases h⟩), fun h => by cases h⟩
          | some c =>
            refine iteF ⟨_, rfl, be, _, 2, _, rfl, rfl, SqT.of (st _ _ ebe4), atI_nat (j := 2) rfl, (by show 2 ≤ sizeLine; decide), fun t2 ht2 => ?_⟩
            generalize hH6 : upd H5 t2 _ = H6
            obtain ⟨st2, et2⟩ := freshF ht2 hH6
            rw [hc] at et2
            refine ⟨_, rfl, fD, _, rfl, DGet.t (k := pK c 0) (st2 _ _ (st _ _ ef4)) et2, ?_⟩
            exact ⟨_, rfl, st.trans st2, (fun h => ⟨rfl, fun c' h' => by obtain rfl := Option.some.inj h'; exact h⟩), fun h _ h' => by rw [h' c hc] at h; cases h⟩
      rintro σ H5 ⟨b, rfl, s45, hb, hbn⟩
      have s05 := s4.trans s45
      have stay : CloE kvs' i e → ∀ (v6 v7 : Option V) (H' : Hp), Same H5 H' → Iv i (j + 1) [some (.ref b0), some (.ref fD), some (.bl mr), some (.int (i : Nat)), v4, some (.ref be), v6, v7] H' ∧ ([some (V.ref b0), some (.ref fD), some (.bl mr), some (.int (i : Nat)), v4, some (.ref be), v6, v7] : L2.St)[3]? = some (some (.int (i : Nat))) := fun hcl v6 v7 H' s' =>
        ⟨mk ⟨kvs', mr, _, _, _, _, _, rfl, s05.trans s', s' _ _ (s45 _ _ ef4), hk4.keep (s45.trans s'), hl4, hms, hso4, hen4, fun hm => ⟨(hcl4 hm).1, fun a k nt' e' h1 h2 h3 => by
          by_cases ha : a = i ∧ k = j
          · obtain ⟨rfl, rfl⟩ := ha
            obtain rfl := Option.some.inj (hnt.symm.trans h1)
            obtain rfl := Option.some.inj (he.symm.trans h2)
            rw [← (hcl4 hm).1]
            exact hcl
          · exact (hcl4 hm).2 a k nt' e' h1 h2 (by omega)⟩⟩, rfl⟩
      refine ⟨_, rfl, _, rfl, ?_⟩
      cases b with
      | false => exact ifF rfl (ifF rfl (stay (hbn rfl) _ _ H5 (Same.refl _)))
      | true =>
      obtain ⟨hb1, hb2⟩ := hb rfl
      refine ifT rfl ?_
      refine ⟨_, rfl, _, rfl, be, _, 0, _, rfl, rfl, SqT.of (s45 _ _ ebe4), atI_nat (j := 0) rfl, (by show 2 ≤ sizeLine; decide), fun t3 ht3 => ?_⟩
      generalize hH6 : upd H5 t3 _ = H6
      obtain ⟨st3, et3⟩ := freshF ht3 hH6
      refine ⟨_, rfl, fD, _, rfl, DGet.t (k := pK i e.p) (st3 _ _ (s45 _ _ ef4)) et3, _, rfl, ?_⟩
      cases hv : valV kvs' (pK i e.p) with
      | some v => exact ifF rfl (stay (fun _ _ => by rw [hv] <;> rfl) _ _ H6 st3)
      | none =>
      refine ifT rfl ?_
      have s46 := s45.trans st3
      have s06 := s4.trans s46
      have ef6 := s46 _ _ ef4
      have hk6 := hk4.keep s46
      have ebe6 := s46 _ _ ebe4
      refine ⟨fun σ H' => ∃ (r : Addr) (xs : List Int), σ = [some (.ref b0), some (.ref fD), some (.bl mr), some (.int (i : Nat)), v4, some (.ref be), some (.bl true), some (.ref r)] ∧ Same H6 H' ∧ H' r = some (.lst (xs.map V.int)) ∧ xs.length = W.lb.toNat + 1 ∧ (∀ c, e.c = some c → RV W c.toNat 0 xs) ∧ (e.c = none → xs = zer W), ?_, ?_⟩
      · refine ⟨_, rfl, be, _, 2, _, rfl, rfl, SqT.of ebe6, atI_nat (j := 2) rfl, rfl, _, rfl, ?_⟩
        cases hc : e.c with
        | none =>
          refine ifT rfl ⟨(by show 1 ≤ sizeLine; decide), fun z1 hz1 => ?_⟩
          generalize hH7 : upd H6 z1 _ = H7
          obtain ⟨sz1, ez1⟩ := freshF hz1 hH7
          refine ⟨_, rfl, b0, _, 0, _, rfl, rfl, SqT.of (sz1 _ _ (s06 _ _ eb0)), atI_nat (j := 0) rfl, _, _, rfl, rfl, z1, W.lb + 1, [.int 0], rfl, rfl, ez1, (by omega), (by omega), (by show 1 * (W.lb + 1).toNat ≤ sizeLine; rw [sizeLine_eq]; omega), fun z2 hz2 => ?_⟩
          generalize hH8 : upd H7 z2 _ = H8
          obtain ⟨sz2, ez2⟩ := freshF hz2 hH8
          rw [rep_flat hlb.1] at ez2
          exact ⟨z2, _, rfl, sz1.trans sz2, ez2, List.length_replicate, (fun c h => by cases h), fun _ => rfl⟩
        | some c =>
          refine ifF rfl ⟨_, rfl, _, rfl, be, _, 2, _, rfl, rfl, SqT.of ebe6, atI_nat (j := 2) rfl, (by show 2 ≤ sizeLine; decide), fun t4 ht4 => ?_⟩
          generalize hH7 : upd H6 t4 _ = H7
          obtain ⟨st4, et4⟩ := freshF ht4 hH7
          rw [hc] at et4
          obtain ⟨v, hv2⟩ := Option.isSome_iff_exists.mp (hb2 c hc)
          obtain ⟨r, xs, rfl, er, hxl, hrv⟩ := hk6 _ _ hv2
          have g := DGet.t (k := pK c 0) (st4 _ _ ef6) et4
          rw [hv2] at g
          exact ⟨fD, _, rfl, g, r, xs, rfl, st4, st4 _ _ er, hxl, (fun c' h => by
            obtain rfl := Option.some.inj h
            exact hrv c.toNat 0 (by rw [Int.toNat_of_nonneg (hoe.c c hc).1])), fun h => by cases h⟩
      rintro σ H7 ⟨r, xs, rfl, s67, er, hxl, hrc, hr0⟩
      have s47 := s46.trans s67
      have s07 := s06.trans s67
      refine ⟨_, rfl, _, rfl, g, _, _, W, e, rfl, hw.keep (Kv.of s07), hlb.1, hlb.2, hxd.keep (Kv.of (s4.trans s47)), hoe.k, fun D H8 s8 hD eD => ⟨_, rfl, D, r, own W.lb e, xs, 1, rfl, eD, s8 _ _ er, by rw [own_len, hxl], by rw [own_len]; omega, by decide, by decide, fun D2 H9 s9 hD2 eD2 => ?_⟩⟩
      refine ⟨_, rfl, _, rfl, _, rfl, be, _, 1, _, rfl, rfl, SqT.of (s9 _ _ (s8 _ _ (s67 _ _ ebe6))), atI_nat (j := 1) rfl, (by show 2 ≤ sizeLine; decide), fun t5 ht5 => ?_⟩
      generalize hHa : upd H9 t5 _ = Ha
      obtain ⟨st5, et5⟩ := freshF ht5 hHa
      have s6a := s67.trans (s8.trans (s9.trans st5))
      obtain ⟨v, hv2⟩ := Option.isSome_iff_exists.mp hb1
      obtain ⟨r2, ys, rfl, er2, hyl, hrt⟩ := hk6 _ _ hv2
      have g5 := DGet.t (k := pK i e.t) (s6a _ _ ef6) et5
      rw [hv2] at g5
      refine ⟨fD, _, rfl, g5, D2, r2, _, ys, 1, rfl, st5 _ _ eD2, s6a _ _ er2, ?_, ?_, by decide, by decide, fun D3 Hb sb hD3 eD3 => ?_⟩
      · rw [List.length_zipWith, own_len, hxl, hyl]
        omega
      · rw [List.length_zipWith, own_len, hxl]
        omega
      have s6b := s6a.trans sb
      refine ⟨_, rfl, _, rfl, _, rfl, be, _, 0, _, rfl, rfl, SqT.of (s6b _ _ ebe6), atI_nat (j := 0) rfl, (by show 2 ≤ sizeLine; decide), fun t6 ht6 => ?_⟩
      generalize hHc : upd Hb t6 _ = Hc
      obtain ⟨st6, et6⟩ := freshF ht6 hHc
      have s6c := s6b.trans st6
      have hpl := okw.pl (List.mem_of_getElem? hnt)
      have hin : i < W.ns.length := by rw [← hnl]; exact hi
      have hn4 := okw.n4
      have hmem : pK (i : Nat) e.p ∈ UK := uk_mem (by omega) (by have := hoe.p; omega)
      have hlt := ms_put (v := .ref D3) hmem hv
      refine ⟨fD, _, rfl, DPut.t (k := pK i e.p) (s6c _ _ ef6) et6 (by rw [sizeLine_eq]; omega), ?_⟩
      refine ⟨mk ⟨_, true, _, _, _, _, _, rfl, fun b o eb => ?_, upd_same, (hk6.keep s6c).put (s6c _ _ ef6) (st6 _ _ eD3) ?_ (fun a p ek => by
        obtain ⟨h1, rfl⟩ := pK_inj ek
        obtain rfl : i = a := by omega
        exact .step hnt (List.mem_of_getElem? he) (hrt i e.t rfl) hrc hr0), ?_, ?_, hso4.put ?_, (fun a nt' h1 h2 => put_some (hen4 a nt' h1 h2)), fun h => by cases h⟩, rfl⟩
      · rw [upd_ne (ne_of_none eb hfD)]
        exact s6c _ _ (s06 _ _ eb)
      · rw [List.length_zipWith, List.length_zipWith, own_len, hxl, hyl]
        omega
      · have := putK_le kvs' (pK i e.p) (.ref D3)
        omega
      · show _ + 1 ≤ _
        have : ms kvs' ≤ ms kvs := by
          have := hms
          cases mr with
          | false => exact this
          | true => exact Nat.le_of_succ_le this
        omega
      · have fin : ∀ {a' p' : Int}, (valV kvs' (pK a' p')).isSome = true → 0 ≤ a' → FinP W a'.toNat p' := fun {a' p'} h h0 => by
          obtain ⟨v', hv'⟩ := Option.isSome_iff_exists.mp h
          obtain ⟨a2, p2, e2, hf⟩ := hso4 _ _ hv'
          obtain ⟨rfl, rfl⟩ := pK_inj e2
          exact hf
        refine .step hnt (List.mem_of_getElem? he) (fin hb1 (Int.natCast_nonneg _)) fun c hc => ?_
        exact fin (hb2 c hc) (hoe.c c hc).1
    · intro σ H3 h
      obtain ⟨kvs', mr, v3, v4, v5, v6, v7, rfl, s3, ef3, hk3, hl3, hms, hso3, hen3, hcl3⟩ := un h
      refine ⟨2 * ms kvs' + mr.toNat, ?_, kvs', mr, _, _, _, _, _, rfl, rfl, s3, ef3, hk3, hl3, hso3, hen3, fun hm => by rw [(hcl3 hm).1, ← hnl]; exact (hcl3 hm).2⟩
      cases mr with
      | false =>
        show 2 * ms kvs' + 0 < m
        have hms : ms kvs' + 0 ≤ ms kvs := hms
        omega
      | true =>
        show 2 * ms kvs' + 1 < m
        have hms : ms kvs' + 1 ≤ ms kvs := hms
        omega
end
end K67

set_option Elab.async false
set_option linter.all false
set_option pp.maxSteps 900
set_option maxRecDepth 100000
set_option maxHeartbeats 4000000
namespace K67
open PySem PySem.Spec PyProof.Rows L2
open TL (tl)
abbrev sEI : Stmt := inClass (top 1) 0
abbrev sSN : Stmt := inClass (top 1) 1
/-- an own class: its names are no attributes of it -/
structure ClA (K : PySem.W.Frag) (C : Addr) (names : List Str) : Prop where
  cl : Cls K C
  na : ∀ f ∈ names, NoAttr K C f
abbrev eNames : List Str := ["net", "at", "spot", "goal", "called", "start", "edge_beats", "labels"]
def oN : Option Nat → V
  | none => .non
  | some n => .int (n : Nat)
/-- an edge of the chart at p -/
structure EFs (H : Hp) (W : Web) (a k : Nat) (e : Ed) (fs : List (Str × V)) : Prop where
  net : fs.lookup ("net" : Str) = some (.int (a : Nat))
  at_ : fs.lookup ("at" : Str) = some (.int (k : Nat))
  spot : fs.lookup ("spot" : Str) = some (.int (spN W a e.p : Nat))
  goal : fs.lookup ("goal" : Str) = some (.int (spN W a e.t : Nat))
  called : fs.lookup ("called" : Str) = some (oIV e.c)
  start : fs.lookup ("start" : Str) = some (oN (e.c.map fun c => stN W.ns c.toNat))
  beats : fs.lookup ("edge_beats" : Str) = some (.int e.b)
  labels : ∃ q : Addr, fs.lookup ("labels" : Str) = some (.ref q) ∧ H q = some (.tup (e.l.map V.int))
  no : fs.lookup ("spots_needed" : Str) = none
def EOb (C : Addr) (H : Hp) (W : Web) (p : Addr) (a k : Nat) (e : Ed) : Prop := ∃ dx fs, H p = some (.ins C dx fs) ∧ EFs H W a k e fs
theorem EOb.keep {C : Addr} {H H' : Hp} {W : Web} {p : Addr} {a k : Nat} {e : Ed} (h : EOb C H W p a k e) (hp : ∀ dx fs, H p = some (.ins C dx fs) → H' p = some (.ins C dx fs)) (ht : Kt H H') : EOb C H' W p a k e := by
  obtain ⟨dx, fs, h1, h2⟩ := h
  obtain ⟨q, h3, h4⟩ := h2.labels
  exact ⟨dx, fs, hp _ _ h1, { h2 with labels := ⟨q, h3, ht _ _ h4⟩ }⟩
def stsV (W : Web) : List V := (List.range W.ns.length).map fun a => V.int (stN W.ns a : Nat)
theorem sts_at {W : Web} {a : Nat} (h : a < W.ns.length) : (stsV W)[a]? = some (.int (stN W.ns a : Nat)) := by
  unfold stsV
  rw [List.getElem?_map, List.getElem?_range h]
  rfl
def spEI (C : Addr) : Sp := fun vs H Q _ => ∃ (g p dx sl : Addr) (ve : V) (W : Web) (a k : Nat) (nt : Int × List Ed) (e : Ed), vs = [.ref p, .int (a : Nat), .int (k : Nat), ve, .ref sl] ∧ H p = some (.ins C dx []) ∧ DV g H ve (edD e) ∧ H sl = some (.lst (stsV W)) ∧ W.ns[a]? = some nt ∧ e ∈ nt.2 ∧ OkW W ∧
  ∀ H', (∀ b o, H b = some o → b ≠ p → H' b = some o) → EOb C H' W p a k e → Q .non H'
def spSN (C : Addr) : Sp := fun vs H Q _ => ∃ (p : Addr) (W : Web) (a k : Nat) (e : Ed), vs = [.ref p] ∧ EOb C H W p a k e ∧ ∀ (D : Addr) (H' : Hp), Same H H' → H D = none → H' D = some (.lst ((needs (geOf W a e)).map fun n => V.int (n : Nat))) → Q (.ref D) H'
theorem putF_le {f : Str} {v : V} : ∀ {fs : List (Str × V)} {n : Nat}, fs.length ≤ n → (putF f v fs).length ≤ n + 1
  | [], n, _ => by
    show 1 ≤ n + 1
    omega
  | (g, x) :: r, n, h => by
    have h : r.length + 1 ≤ n := h
    show (if g = f then (g, v) :: r else (g, x) :: putF f v r).length ≤ n + 1
    split
    · show r.length + 1 ≤ n + 1
      omega
    · have := putF_le (f := f) (v := v) (fs := r) (n := n - 1) (by omega)
      show (putF f v r).length + 1 ≤ n + 1
      omega
section
variable {P : Program} {w : World} {K : PySem.W.Frag} {mg : Str → Option Value} {base : Heap}
theorem scEi : FnScope ["self", "net", "at", "told", "starts"] ["self", "net", "at", "told", "starts"] (defScope sEI) := ⟨rfl, rfl, rfl, by decide +kernel, rfl, by decide +kernel, by decide +kernel⟩
theorem ok_ei {f C : Addr} {fd : FuncData} (F : Fun K "__init__" "Edge.__init__" sEI f fd) (CE : ClA K C eNames) : FnOk P w K mg base CX0 1 f fd ["self", "net", "at", "told", "starts"] (spEI C) := by
  refine F.ok scEi (fun vs H Q E h => ?_) (fun cdv A outer s H vs Q E hr h => ?_)
  · obtain ⟨a1, a2, a3, a4, a5, a6, a7, a8, a9, b1, rfl, _⟩ := h
    rfl
  · obtain ⟨g, p, dx, sl, ve, W, a, k, nt, e, rfl, hp, he, hsl, hnt, hem, okw, kq⟩ := h
    refine ⟨_, (pss_cons (ps_fld (pv 0) (pv 1) rfl)
      (pss_cons (ps_fld (pv 0) (pv 2) rfl)
      (pss_cons (ps_fld (pv 0) (pe_op op_add (pe_ix ix_list (pv 4) (pv 1) (fun _ _ => rfl)) (pe_ix ix_tup (pv 3) pe_int (fun _ _ => rfl))) rfl)
      (pss_cons (ps_fld (pv 0) (pe_op op_add (pe_ix ix_list (pv 4) (pv 1) (fun _ _ => rfl)) (pe_ix ix_tup (pv 3) pe_int (fun _ _ => rfl))) rfl)
      (pss_cons (ps_fld (pv 0) (pe_ix ix_tup (pv 3) pe_int (fun _ _ => rfl)) rfl)
      (pss_mid (ps_fld (pv 0) (pe_ifExp (pt_cmpR op_isN (pe_ix ix_tup (pv 3) pe_int (fun _ _ => rfl)) pe_non (nomark _)) pe_non (pe_ix ix_list (pv 4) (pe_ix ix_tup (pv 3) pe_int (fun _ _ => rfl)) (fun _ _ => rfl))) rfl)
      (pss_cons (ps_fld (pv 0) (pe_ix ix_tup (pv 3) pe_int (fun _ _ => rfl)) rfl)
      (pss_one (ps_fld (pv 0) (pe_ix ix_tup (pv 3) pe_int (fun _ _ => rfl)) rfl))))))))), ?_⟩
    obtain ⟨be, ae, rfl, ebe, xl, eae, rl⟩ := ed_at he
    have hoe := okw.ed nt (List.mem_of_getElem? hnt) e hem
    have hal := (List.getElem?_eq_some_iff.mp hnt).1
    have na := fun (f : Str) (h : f ∈ eNames) => CE.na f h
    have npb : be ≠ p := ne_of ebe hp (by intro z; cases z)
    have nps : sl ≠ p := ne_of hsl hp (by intro z; cases z)
    have npa : ae ≠ p := ne_of eae hp (by intro z; cases z)
    have tb : ∀ {fs : List (Str × V)}, (upd H p (.ins C dx fs)) be = some (.tup [.int e.p, .int e.t, oIV e.c, .int e.b, .ref ae]) := fun {fs} => by rw [upd_ne npb]; exact ebe
    have ts : ∀ {fs : List (Str × V)}, (upd H p (.ins C dx fs)) sl = some (.lst (stsV W)) := fun {fs} => by rw [upd_ne nps]; exact hsl
    have uu : ∀ {fs fs' : List (Str × V)}, upd (upd H p (.ins C dx fs)) p (.ins C dx fs') = upd H p (.ins C dx fs') := fun {fs fs'} => by
      funext b
      by_cases hb : b = p
      · rw [hb, upd_same, upd_same]
      · rw [upd_ne hb, upd_ne hb, upd_ne hb]
    -- net, at
    refine ⟨_, rfl, _, rfl, p, C, dx, [], rfl, hp, CE.cl, na "net" (by decide +kernel), (by decide), ?_⟩
    refine ⟨_, rfl, _, rfl, p, C, dx, _, rfl, upd_same, CE.cl, na "at" (by decide +kernel), (by refine Nat.lt_of_le_of_lt (m := 40) ?_ (by decide); repeat (first | refine putF_le ?_ | exact Nat.zero_le _)), ?_⟩
    rw [uu]
    -- spot, goal
    refine ⟨_, rfl, _, rfl, sl, stsV W, (a : Nat), _, rfl, rfl, SqL.of ts, atI_nat (sts_at hal), _, rfl, be, _, 0, _, rfl, rfl, SqT.of tb, atI_nat (j := 0) rfl, _, _, rfl, rfl, _, rfl, p, C, dx, _, rfl, upd_same, CE.cl, na "spot" (by decide +kernel), (by refine Nat.lt_of_le_of_lt (m := 40) ?_ (by decide); repeat (first | refine putF_le ?_ | exact Nat.zero_le _)), ?_⟩
    rw [uu]
    refine ⟨_, rfl, _, rfl, sl, stsV W, (a : Nat), _, rfl, rfl, SqL.of ts, atI_nat (sts_at hal), _, rfl, be, _, 1, _, rfl, rfl, SqT.of tb, atI_nat (j := 1) rfl, _, _, rfl, rfl, _, rfl, p, C, dx, _, rfl, upd_same, CE.cl, na "goal" (by decide +kernel), (by refine Nat.lt_of_le_of_lt (m := 40) ?_ (by decide); repeat (first | refine putF_le ?_ | exact Nat.zero_le _)), ?_⟩
    rw [uu]
    refine ⟨_, rfl, be, _, 2, _, rfl, rfl, SqT.of tb, atI_nat (j := 2) rfl, _, rfl, p, C, dx, _, rfl, upd_same, CE.cl, na "called" (by decide +kernel), (by refine Nat.lt_of_le_of_lt (m := 40) ?_ (by decide); repeat (first | refine putF_le ?_ | exact Nat.zero_le _)), ?_⟩
    rw [uu]
    refine ⟨fun σ H' => σ = [some (.ref p), some (.int (a : Nat)), some (.int (k : Nat)), some (.ref be), some (.ref sl)] ∧ H' = upd H p (.ins C dx (putF "start" (oN (e.c.map fun c => stN W.ns c.toNat)) (putF "called" (oIV e.c) (putF "goal" (.int ((stN W.ns a : Nat) + e.t)) (putF "spot" (.int ((stN W.ns a : Nat) + e.p)) (putF "at" (.int (k : Nat)) (putF "net" (.int (a : Nat)) []))))))), ?_, ?_⟩
    · refine ⟨_, rfl, be, _, 2, _, rfl, rfl, SqT.of tb, atI_nat (j := 2) rfl, rfl, _, rfl, ?_⟩
      cases hc : e.c with
      | none =>
        refine ifT rfl ⟨_, rfl, p, C, dx, _, rfl, upd_same, CE.cl, na "start" (by decide +kernel), (by refine Nat.lt_of_le_of_lt (m := 40) ?_ (by decide); repeat (first | refine putF_le ?_ | exact Nat.zero_le _)), rfl, ?_⟩
        rw [uu] <;> rfl
      | some c =>
        have hcc := hoe.c c hc
        refine ifF rfl ⟨_, rfl, _, rfl, be, _, 2, _, rfl, rfl, SqT.of tb, atI_nat (j := 2) rfl, ?_⟩
        rw [hc]
        have hcl : c.toNat < W.ns.length := by omega
        refine ⟨sl, stsV W, c, _, rfl, rfl, SqL.of ts, at_int hcc.1 (sts_at hcl), _, rfl, p, C, dx, _, rfl, upd_same, CE.cl, na "start" (by decide +kernel), (by refine Nat.lt_of_le_of_lt (m := 40) ?_ (by decide); repeat (first | refine putF_le ?_ | exact Nat.zero_le _)), rfl, ?_⟩
        rw [uu] <;> rfl
    rintro σ H' ⟨rfl, rfl⟩
    refine ⟨_, rfl, be, _, 3, _, rfl, rfl, SqT.of tb, atI_nat (j := 3) rfl, _, rfl, p, C, dx, _, rfl, upd_same, CE.cl, na "edge_beats" (by decide +kernel), (by refine Nat.lt_of_le_of_lt (m := 40) ?_ (by decide); repeat (first | refine putF_le ?_ | exact Nat.zero_le _)), ?_⟩
    rw [uu]
    refine ⟨_, rfl, be, _, 4, _, rfl, rfl, SqT.of tb, atI_nat (j := 4) rfl, _, rfl, p, C, dx, _, rfl, upd_same, CE.cl, na "labels" (by decide +kernel), (by refine Nat.lt_of_le_of_lt (m := 40) ?_ (by decide); repeat (first | refine putF_le ?_ | exact Nat.zero_le _)), ?_⟩
    rw [uu]
    refine kq _ (fun b o eb nb => by rw [upd_ne nb]; exact eb) ⟨dx, _, upd_same, ?_⟩
    have hsp : ((spN W a e.p : Nat) : Int) = (stN W.ns a : Nat) + e.p := by
      unfold spN
      have := hoe.p
      omega
    have hgo : ((spN W a e.t : Nat) : Int) = (stN W.ns a : Nat) + e.t := by
      unfold spN
      have := hoe.t
      omega
    have hlx : xl = e.l.map V.int := by
      have : ∀ (l : List Int) (ys : List V), DVs g H ys (l.map Dt.int) → ys = l.map V.int := by
        intro l
        induction l with
        | nil => intro ys h; cases h; rfl
        | cons x l ih =>
          intro ys h
          cases h with
          | cons h1 h2 => rw [h1.int_inv, ih _ h2]; rfl
      exact this _ _ rl
    refine ⟨?_, ?_, ?_, ?_, ?_, ?_, ?_, ⟨ae, ?_, ?_⟩, ?_⟩
    · rw [lookup_putF, if_neg (by decide +kernel), lookup_putF, if_neg (by decide +kernel), lookup_putF, if_neg (by decide +kernel), lookup_putF, if_neg (by decide +kernel), lookup_putF, if_neg (by decide +kernel), lookup_putF, if_neg (by decide +kernel), lookup_putF, if_neg (by decide +kernel), lookup_putF, if_pos rfl]
    · rw [lookup_putF, if_neg (by decide +kernel), lookup_putF, if_neg (by decide +kernel), lookup_putF, if_neg (by decide +kernel), lookup_putF, if_neg (by decide +kernel), lookup_putF, if_neg (by decide +kernel), lookup_putF, if_neg (by decide +kernel), lookup_putF, if_pos rfl]
    · rw [hsp]
      rw [lookup_putF, if_neg (by decide +kernel), lookup_putF, if_neg (by decide +kernel), lookup_putF, if_neg (by decide +kernel), lookup_putF, if_neg (by decide +kernel), lookup_putF, if_neg (by decide +kernel), lookup_putF, if_pos rfl]
    · rw [hgo]
      rw [lookup_putF, if_neg (by decide +kernel), lookup_putF, if_neg (by decide +kernel), lookup_putF, if_neg (by decide +kernel), lookup_putF, if_neg (by decide +kernel), lookup_putF, if_pos rfl]
    · rw [lookup_putF, if_neg (by decide +kernel), lookup_putF, if_neg (by decide +kernel), lookup_putF, if_neg (by decide +kernel), lookup_putF, if_pos rfl]
    · rw [lookup_putF, if_neg (by decide +kernel), lookup_putF, if_neg (by decide +kernel), lookup_putF, if_pos rfl]
    · rw [lookup_putF, if_neg (by decide +kernel), lookup_putF, if_pos rfl]
    · rw [lookup_putF, if_pos rfl]
    · rw [upd_ne npa, ← hlx]
      exact eae
    · rw [lookup_putF, if_neg (by decide +kernel), lookup_putF, if_neg (by decide +kernel), lookup_putF, if_neg (by decide +kernel), lookup_putF, if_neg (by decide +kernel), lookup_putF, if_neg (by decide +kernel), lookup_putF, if_neg (by decide +kernel), lookup_putF, if_neg (by decide +kernel), lookup_putF, if_neg (by decide +kernel)]
      rfl
theorem scSn : FnScope ["self"] ["self"] (defScope sSN) := ⟨rfl, rfl, rfl, by decide +kernel, rfl, by decide +kernel, by decide +kernel⟩
theorem ok_sn {f C : Addr} {fd : FuncData} (F : Fun K "spots_needed" "Edge.spots_needed" sSN f fd) (CE : ClA K C eNames) : FnOk P w K mg base CX0 1 f fd ["self"] (spSN C) := by
  refine F.ok scSn (fun vs H Q E h => ?_) (fun cdv A outer s H vs Q E hr h => ?_)
  · obtain ⟨a1, a2, a3, a4, a5, rfl, _⟩ := h
    rfl
  · obtain ⟨p, W, a, k, e, rfl, ⟨dx, fs, hp, hf⟩, kq⟩ := h
    have na := fun (f : Str) (h : f ∈ eNames) => CE.na f h
    refine ⟨_, (pss_one (ps_ret (pe_ifExp (pt_cmpR op_isN (pe_fld (pv 0) rfl) pe_non (nomark _)) (pe_lst (pa_cons (pe_fld (pv 0) rfl) pa_nil)) (pe_lst (pa_cons (pe_fld (pv 0) rfl) (pa_cons (pe_fld (pv 0) rfl) pa_nil)))))), ?_⟩
    refine ⟨_, rfl, p, C, dx, fs, _, rfl, hp, CE.cl, na "start" (by decide +kernel), hf.start, rfl, _, rfl, ?_⟩
    cases hc : e.c with
    | none =>
      refine ifT rfl ⟨_, rfl, p, C, dx, fs, _, rfl, hp, CE.cl, na "goal" (by decide +kernel), hf.goal, (by show 1 ≤ sizeLine; decide), fun D hD => ?_⟩
      generalize hH1 : upd H D _ = H1
      obtain ⟨sD, eD⟩ := freshF hD hH1
      refine kq D H1 sD hD ?_
      rw [eD]
      unfold needs geOf
      rw [hc]
      rfl
    | some c =>
      refine ifF rfl ⟨_, rfl, p, C, dx, fs, _, rfl, hp, CE.cl, na "goal" (by decide +kernel), hf.goal, _, rfl, p, C, dx, fs, _, rfl, hp, CE.cl, na "start" (by decide +kernel), hf.start, (by show 2 ≤ sizeLine; decide), fun D hD => ?_⟩
      generalize hH1 : upd H D _ = H1
      obtain ⟨sD, eD⟩ := freshF hD hH1
      refine kq D H1 sD hD ?_
      rw [eD]
      unfold needs geOf
      rw [hc]
      rfl
end
end K67

set_option Elab.async false
set_option linter.all false
set_option pp.maxSteps 900
set_option maxRecDepth 100000
set_option maxHeartbeats 4000000
namespace K67
open PySem PySem.Spec PyProof.Rows L2
open TL (tl)
abbrev sCI : Stmt := inClass (top 2) 0
abbrev sIU : Stmt := inClass (top 2) 1
abbrev sIF : Stmt := inClass (top 2) 2
abbrev sIO : Stmt := inClass (top 2) 3
abbrev sFi : Stmt := inClass (top 2) 4
abbrev sRe : Stmt := inClass (top 2) 5
abbrev cNames : List Str := ["label_count", "starts", "ends", "spot_count", "edges", "ends_at", "choice", "order", "came", "callers", "used"]
/-! ### the class Chart -/
def exUp (W : Web) (i : Nat) : List (Nat × Nat × Ed) := ((List.range i).map fun a => (edsN W a).zipIdx.map fun y => (a, y.2, y.1)).flatten
def exOf (W : Web) : List (Nat × Nat × Ed) := exUp W W.ns.length
def geX (W : Web) (y : Nat × Nat × Ed) : GE := geOf W y.1 y.2.2
theorem ex_ges (W : Web) (i : Nat) : (exUp W i).map (geX W) = gesUp W i := by
  unfold exUp gesUp
  rw [List.map_flatten, List.map_map]
  congr 1
  refine List.map_congr_left fun a _ => ?_
  show ((edsN W a).zipIdx.map fun y => (a, y.2, y.1)).map (geX W) = _
  rw [List.map_map]
  show (edsN W a).zipIdx.map (fun y => geOf W a y.1) = _
  rw [show (fun y : Ed × Nat => geOf W a y.1) = (geOf W a) ∘ Prod.fst from rfl, ← List.map_map, List.zipIdx_map_fst]
theorem ex_ge {W : Web} {t : Nat} {y : Nat × Nat × Ed} (h : (exOf W)[t]? = some y) : (gesOf W)[t]? = some (geX W y) := by
  unfold gesOf
  rw [← ex_ges, List.getElem?_map]
  show ((exOf W)[t]?).map _ = _
  rw [h]
  rfl
theorem ex_mem {W : Web} {i : Nat} {y : Nat × Nat × Ed} (h : y ∈ exUp W i) : ∃ nt, y.1 < i ∧ W.ns[y.1]? = some nt ∧ nt.2[y.2.1]? = some y.2.2 := by
  unfold exUp at h
  obtain ⟨l, hl, hy⟩ := List.mem_flatten.mp h
  obtain ⟨a, ha, rfl⟩ := List.mem_map.mp hl
  obtain ⟨z, hz, rfl⟩ := List.mem_map.mp hy
  obtain ⟨h1, h2⟩ := List.mem_zipIdx' hz
  have hzz : (edsN W a)[z.2]? = some z.1 := by
    rw [List.getElem?_eq_some_iff]
    exact ⟨h1, h2.symm⟩
  cases hn : W.ns[a]? with
  | none =>
    have e : edsN W a = [] := by
      unfold edsN
      rw [hn]
      rfl
    rw [e] at hzz
    cases hzz
  | some nt =>
    have e : edsN W a = nt.2 := by
      unfold edsN
      rw [hn]
      rfl
    rw [e] at hzz
    exact ⟨nt, List.mem_range.mp ha, rfl, hzz⟩
/-- the chart's edges -/
def EdL (C : Addr) (H : Hp) (W : Web) (xs : List V) (ex : List (Nat × Nat × Ed)) : Prop := xs.length = ex.length ∧ ∀ (t : Nat) (y : Nat × Nat × Ed), ex[t]? = some y → ∃ q : Addr, xs[t]? = some (.ref q) ∧ EOb C H W q y.1 y.2.1 y.2.2
/-- tuples stay, and instances of the class -/
structure Kx (C : Addr) (H H' : Hp) : Prop where
  tup : Kt H H'
  ins : ∀ b dx fs, H b = some (.ins C dx fs) → H' b = some (.ins C dx fs)
theorem Kx.of {C : Addr} {H H' : Hp} (s : Same H H') : Kx C H H' := ⟨fun b xs e => s _ _ e, fun b dx fs e => s _ _ e⟩
theorem Kx.trans {C : Addr} {H H' H'' : Hp} (a : Kx C H H') (b : Kx C H' H'') : Kx C H H'' := ⟨fun c xs e => b.tup _ _ (a.tup _ _ e), fun c dx fs e => b.ins _ _ _ (a.ins _ _ _ e)⟩
theorem Kx.put {C : Addr} {H : Hp} {p : Addr} {u o : HO} (h : H p = some u) (h1 : ∀ xs, u ≠ .tup xs) (h2 : ∀ dx fs, u ≠ .ins C dx fs) : Kx C H (upd H p o) := by
  refine ⟨fun b xs e => ?_, fun b dx fs e => ?_⟩
  · rw [upd_ne (fun z => by rw [z, h] at e; exact h1 xs (Option.some.inj e))]
    exact e
  · rw [upd_ne (fun z => by rw [z, h] at e; exact h2 dx fs (Option.some.inj e))]
    exact e
theorem Kx.putL {C : Addr} {H : Hp} {p : Addr} {l : List V} {o : HO} (h : H p = some (.lst l)) : Kx C H (upd H p o) := Kx.put h (fun _ z => by cases z) (fun _ _ z => by cases z)
theorem Kx.putK {C : Addr} {H : Hp} {p : Addr} {l : List (Key × V)} {o : HO} (h : H p = some (.dK l)) : Kx C H (upd H p o) := Kx.put h (fun _ z => by cases z) (fun _ _ z => by cases z)
theorem Kx.putI {C C' : Addr} {H : Hp} {p dx : Addr} {fs : List (Str × V)} {o : HO} (h : H p = some (.ins C' dx fs)) (n : C' ≠ C) : Kx C H (upd H p o) := Kx.put h (fun _ z => by cases z) (fun _ _ z => by injection z with z; exact n z)
theorem EOb.kx {C : Addr} {H H' : Hp} {W : Web} {p : Addr} {a k : Nat} {e : Ed} (h : EOb C H W p a k e) (kx : Kx C H H') : EOb C H' W p a k e := h.keep (fun dx fs e => kx.ins _ _ _ e) kx.tup
theorem EdL.kx {C : Addr} {H H' : Hp} {W : Web} {xs : List V} {ex : List (Nat × Nat × Ed)} (h : EdL C H W xs ex) (kx : Kx C H H') : EdL C H' W xs ex := ⟨h.1, fun t y e => by
  obtain ⟨q, h1, h2⟩ := h.2 t y e
  exact ⟨q, h1, h2.kx kx⟩⟩
def endsKv (l : List Nat) : List (Key × V) := l.map fun n => ((Sum.inl ((n : Nat) : Int) : Key), V.bl true)
theorem ends_val {l : List Nat} {x : Nat} : (valV (endsKv l) (Sum.inl ((x : Nat) : Int))).isSome = decide (x ∈ l) := by
  induction l with
  | nil => rfl
  | cons y l ih =>
    by_cases h : y = x
    · subst h
      rw [show valV (endsKv (y :: l)) (Sum.inl ((y : Nat) : Int)) = some (V.bl true) from valV_pos rfl, decide_eq_true List.mem_cons_self] <;> rfl
    · rw [show valV (endsKv (y :: l)) (Sum.inl ((x : Nat) : Int)) = valV (endsKv l) (Sum.inl ((x : Nat) : Int)) from valV_neg (fun e => h (by have := Sum.inl.inj e; omega)), ih, decide_eq_decide]
      simp [show ¬ x = y from fun e => h e.symm]
/-- what is finished: chosen, or an end -/
structure ChF (H : Hp) (fs : List (Str × V)) (cl da : Addr) (ch : List (Option Nat)) (ends : List Nat) : Prop where
  choice : fs.lookup ("choice" : Str) = some (.ref cl)
  ends_at : fs.lookup ("ends_at" : Str) = some (.ref da)
  hc : H cl = some (.lst (ch.map oN))
  hd : H da = some (.dK (endsKv ends))
/-- the class's facts -/
structure ChK (K : PySem.W.Frag) (C : Addr) (fIU fIF fIO fFi fRe : Addr) : Prop where
  a : ClA K C cNames
  mIU : Meth K C "is_useful" fIU
  mIF : Meth K C "is_finished" fIF
  mIO : Meth K C "is_open" fIO
  mFi : Meth K C "finish" fFi
  mRe : Meth K C "reach" fRe
def finB (ch : List (Option Nat)) (ends : List Nat) (x : Nat) : Bool := ((ch[x]?.join).isSome || decide (x ∈ ends))
def spIU (C : Addr) : Sp := fun vs H Q _ => ∃ (p dx ca : Addr) (fs : List (Str × V)) (kvs : List (Key × V)) (x : Nat), vs = [.ref p, .int (x : Nat)] ∧ H p = some (.ins C dx fs) ∧ fs.lookup ("came" : Str) = some (.ref ca) ∧ H ca = some (.dK kvs) ∧ Q (.bl (valV kvs (Sum.inl ((x : Nat) : Int))).isSome) H
def spIF (C : Addr) : Sp := fun vs H Q _ => ∃ (p dx cl da : Addr) (fs : List (Str × V)) (ch : List (Option Nat)) (ends : List Nat) (x : Nat), vs = [.ref p, .int (x : Nat)] ∧ H p = some (.ins C dx fs) ∧ ChF H fs cl da ch ends ∧ x < ch.length ∧ Q (.bl (finB ch ends x)) H
def spIO (C CE : Addr) : Sp := fun vs H Q _ => ∃ (p dx cl da q : Addr) (fs : List (Str × V)) (ch : List (Option Nat)) (ends : List Nat) (W : Web) (a k : Nat) (e : Ed), vs = [.ref p, .ref q] ∧ H p = some (.ins C dx fs) ∧ ChF H fs cl da ch ends ∧ (∀ m, m ∉ cNames → fs.lookup m = none) ∧ EOb CE H W q a k e ∧
  (∀ y ∈ needs (geOf W a e), y < ch.length) ∧ ∀ H', Same H H' → Q (.bl ((needs (geOf W a e)).all (finB ch ends))) H'
section
variable {P : Program} {w : World} {K : PySem.W.Frag} {mg : Str → Option Value} {base : Heap}
theorem scIu : FnScope ["self", "spot"] ["self", "spot"] (defScope sIU) := ⟨rfl, rfl, rfl, by decide +kernel, rfl, by decide +kernel, by decide +kernel⟩
theorem ok_iu {f C fIU fIF fIO fFi fRe : Addr} {fd : FuncData} (F : Fun K "is_useful" "Chart.is_useful" sIU f fd) (CC : ChK K C fIU fIF fIO fFi fRe) : FnOk P w K mg base CX0 1 f fd ["self", "spot"] (spIU C) := by
  refine F.ok scIu (fun vs H Q E h => ?_) (fun cdv A outer s H vs Q E hr h => ?_)
  · obtain ⟨a1, a2, a3, a4, a5, a6, rfl, _⟩ := h
    rfl
  · obtain ⟨p, dx, ca, fs, kvs, x, rfl, hp, hf, hca, kq⟩ := h
    have hu := hu_of hr
    refine ⟨_, (pss_one (ps_ret (pe_cmp (pc_din hu (pv 1) (pe_fld (pv 0) rfl)) rfl))), ?_⟩
    exact ⟨_, rfl, _, rfl, p, C, dx, fs, _, rfl, hp, CC.a.cl, CC.a.na "came" (by decide +kernel), hf, ca, _, rfl, DGet.k (k := Sum.inl ((x : Nat) : Int)) hca, kq⟩
theorem scIf : FnScope ["self", "spot"] ["self", "spot"] (defScope sIF) := ⟨rfl, rfl, rfl, by decide +kernel, rfl, by decide +kernel, by decide +kernel⟩
theorem ok_if {f C fIU fIF fIO fFi fRe : Addr} {fd : FuncData} (F : Fun K "is_finished" "Chart.is_finished" sIF f fd) (CC : ChK K C fIU fIF fIO fFi fRe) : FnOk P w K mg base CX0 1 f fd ["self", "spot"] (spIF C) := by
  refine F.ok scIf (fun vs H Q E h => ?_) (fun cdv A outer s H vs Q E hr h => ?_)
  · obtain ⟨a1, a2, a3, a4, a5, a6, a7, a8, rfl, _⟩ := h
    rfl
  · obtain ⟨p, dx, cl, da, fs, ch, ends, x, rfl, hp, hf, hx, kq⟩ := h
    have hu := hu_of hr
    refine ⟨_, (pss_one (ps_ret (pe_or (pe_cmpR op_notN (pe_ix ix_list (pe_fld (pv 0) rfl) (pv 1) (fun _ _ => rfl)) pe_non (nomark _)) (pe_one (pe_cmp (pc_din hu (pv 1) (pe_fld (pv 0) rfl)) rfl))))), ?_⟩
    have hcx : ch[x]? = some (ch[x]'hx) := List.getElem?_eq_getElem hx
    generalize hc0 : ch[x]'hx = c0 at hcx
    have hcv : (ch.map oN)[x]? = some (oN c0) := by
      rw [List.getElem?_map, hcx]
      rfl
    refine ⟨_, rfl, p, C, dx, fs, _, rfl, hp, CC.a.cl, CC.a.na "choice" (by decide +kernel), hf.choice, _, rfl, cl, _, (x : Nat), _, rfl, rfl, SqL.of hf.hc, atI_nat hcv, rfl, _, rfl, ?_⟩
    have e1 : finB ch ends x = (c0.isSome || decide (x ∈ ends)) := by
      unfold finB
      rw [hcx]
      rfl
    rw [e1] at kq
    cases c0 with
    | some n => exact iteT kq
    | none =>
      refine iteF ⟨_, rfl, _, rfl, p, C, dx, fs, _, rfl, hp, CC.a.cl, CC.a.na "ends_at" (by decide +kernel), hf.ends_at, da, _, rfl, DGet.k (k := Sum.inl ((x : Nat) : Int)) hf.hd, ?_⟩
      rw [ends_val]
      exact kq
theorem scIo : FnScope ["self", "edge", "spot"] ["self", "edge"] (defScope sIO) := ⟨rfl, rfl, rfl, by decide +kernel, rfl, by decide +kernel, by decide +kernel⟩
theorem ok_io {f C CE fIU fIF fIO fFi fRe fSN : Addr} {fd fdIF fdSN : FuncData} (F : Fun K "is_open" "Chart.is_open" sIO f fd) (T : Bn mg) (CC : ChK K C fIU fIF fIO fFi fRe) (EE : ClA K CE eNames) (mSN : Meth K CE "spots_needed" fSN)
    (GIF : FnOk P w K mg base CX0 1 fIF fdIF ["self", "spot"] (spIF C)) (bIF : L2.Binds K fdIF ["self", "spot"] []) (GSN : FnOk P w K mg base CX0 1 fSN fdSN ["self"] (spSN CE)) (bSN : L2.Binds K fdSN ["self"] []) : FnOk P w K mg base CX0 2 f fd ["self", "edge"] (spIO C CE) := by
  refine F.ok scIo (fun vs H Q E h => ?_) (fun cdv A outer s H vs Q E hr h => ?_)
  · obtain ⟨a1, a2, a3, a4, a5, a6, a7, a8, a9, b1, b2, b3, rfl, _⟩ := h
    rfl
  · obtain ⟨p, dx, cl, da, q, fs, ch, ends, W, a, k, e, rfl, hp, hf, hno, hq, hlt, kq⟩ := h
    refine ⟨_, (pss_one (ps_ret (pe_callB (cr_all rfl) (by rfl) T.all (by decide +kernel) (pa_cons (pe_lc (own := [("spot", 2)]) (g := gName 2) (tt := tYes) (by rfl) scIo.nd (pi_list (pe_meth0 (pv 1) EE.cl mSN GSN hr bSN .nil pass0)) (blkOk_by (own := [("spot", 2)]) (N := ["self", "edge", "spot"]) (sc := defScope sIO) (by decide +kernel)) (fun _ _ _ _ _ => (pg_name (i := 2) scIo.nd rfl (Or.inl rfl))) (fun _ _ _ _ _ => pts_nil) (fun _ _ _ _ _ => (pe_meth (pv 0) CC.a.cl CC.mIF GIF hr bIF .nil pass0 (pa_cons (pv 2) pa_nil)))) pa_nil)))), ?_⟩
    obtain ⟨dq, fq, hq1, hq2⟩ := hq
    refine ⟨_, rfl, q, dq, fq, rfl, hq1, hq2.no, q, W, a, k, e, rfl, ⟨dq, fq, hq1, hq2⟩, fun D H1 s1 hD eD => ?_⟩
    refine ⟨D, rfl, ⟨_, SqL.of eD⟩, fun L hL => ?_⟩
    have s2 : ∀ H2, (Same H1 H2) → Same H H2 := fun H2 z => s1.trans z
    refine lc_it (walk_list (K := K) (a := D) (xs := (needs (geOf W a e)).map fun n => V.int (n : Nat))) (fun i H' => H' L = some (.lst (((needs (geOf W a e)).take i).map fun n => V.bl (finB ch ends n))) ∧ Same H1 H') ⟨upd_same, same_new hL⟩ (fun _ _ _ h => SqL.of (h.2 _ _ eD)) ?_ ?_
    · rintro i x H2z H2 hi ⟨h4, s3⟩ ⟨rfl, hx⟩
      rw [List.getElem?_map] at hx
      cases hy : (needs (geOf W a e))[i]? with
      | none => rw [hy] at hx; cases hx
      | some y =>
      rw [hy] at hx
      obtain rfl := Option.some.inj hx
      have hf' : ChF H2 fs cl da ch ends := ⟨hf.choice, hf.ends_at, s2 _ s3 _ _ hf.hc, s2 _ s3 _ _ hf.hd⟩
      refine ⟨rfl, ⟨_, rfl, p, dx, fs, rfl, s2 _ s3 _ _ hp, hno "is_finished" (by decide +kernel), _, rfl, p, dx, cl, da, fs, ch, ends, y, rfl, s2 _ s3 _ _ hp, hf', hlt y (List.mem_of_getElem? hy), ?_⟩⟩
      refine ⟨_, h4, ?_, ?_, ?_⟩
      · have := List.length_take_le i (needs (geOf W a e))
        have h2 : (needs (geOf W a e)).length ≤ 2 := by
          unfold needs
          cases (geOf W a e).c <;> simp
        rw [List.length_map, sizeLine_eq, List.length_take]
        omega
      · rw [upd_same, List.take_succ, hy, List.map_append]
        rfl
      · intro b o eb
        rw [upd_ne (ne_of_none eb hL)]
        exact s3 _ _ eb
    · rintro H2 ⟨h4, s3⟩
      rw [List.length_map, List.take_length] at h4
      refine ⟨L, (needs (geOf W a e)).map (finB ch ends), rfl, SqL.of (by rw [List.map_map]; exact h4), ?_⟩
      rw [List.all_map]
      exact kq H2 (s2 _ s3)
end
end K67

set_option Elab.async false
set_option linter.all false
set_option pp.maxSteps 900
set_option maxRecDepth 100000
set_option maxHeartbeats 4000000
namespace K67
open PySem PySem.Spec PyProof.Rows L2
/-! ### lists of lists; what waits (mathematics) -/
theorem nodup_len : ∀ (l D : List Nat), l.Nodup → (∀ x ∈ l, x ∈ D) → l.length ≤ D.length
  | [], _, _, _ => Nat.zero_le _
  | x :: l, D, nd, h => by
    have hx := h x List.mem_cons_self
    rw [List.nodup_cons] at nd
    have ih := nodup_len l (D.erase x) nd.2 fun y hy => (List.mem_erase_of_ne (show y ≠ x from fun e => nd.1 (by rw [← e]; exact hy))).mpr (h y (List.mem_cons_of_mem _ hy))
    rw [List.length_erase_of_mem hx] at ih
    have : 0 < D.length := List.length_pos_of_mem hx
    rw [List.length_cons]
    omega
theorem nodup_lt {l : List Nat} {n : Nat} (nd : l.Nodup) (h : ∀ x ∈ l, x < n) : l.length ≤ n := by
  have := nodup_len l (List.range n) nd fun x hx => List.mem_range.mpr (h x hx)
  rw [List.length_range] at this
  exact this
def lN (l : List Nat) : HO := .lst (l.map fun n => V.int (n : Nat))
structure LL (H0 H : Hp) (wl : Addr) (as : List Addr) (ws : List (List Nat)) : Prop where
  w : H wl = some (.lst (as.map V.ref))
  wn : H0 wl = none
  wa : wl ∉ as
  nd : as.Nodup
  an : ∀ a ∈ as, H0 a = none
  ln : as.length = ws.length
  it : ∀ (x : Nat) (a : Addr) (l : List Nat), as[x]? = some a → ws[x]? = some l → H a = some (lN l)
theorem nodup_at {as : List Addr} (nd : as.Nodup) {i j : Nat} {a : Addr} (h : as[i]? = some a) (h' : as[j]? = some a) : i = j := by
  have pw := List.pairwise_iff_getElem.mp (List.nodup_iff_pairwise_ne.mp nd)
  obtain ⟨hi, e⟩ := List.getElem?_eq_some_iff.mp h
  obtain ⟨hj, e'⟩ := List.getElem?_eq_some_iff.mp h'
  by_cases h1 : i < j
  · exact absurd (e.trans e'.symm) (pw i j hi hj h1)
  · by_cases h2 : j < i
    · exact absurd (e'.trans e.symm) (pw j i hj hi h2)
    · omega
theorem LL.put {H0 H : Hp} {wl : Addr} {as : List Addr} {ws : List (List Nat)} {x : Nat} {a : Addr} {l : List Nat} (h : LL H0 H wl as ws) (ha : as[x]? = some a) : LL H0 (upd H a (lN l)) wl as (ws.set x l) := by
  have hm : a ∈ as := List.mem_of_getElem? ha
  refine ⟨by rw [upd_ne (show wl ≠ a from fun e => h.wa (by rw [e]; exact hm))]; exact h.w, h.wn, h.wa, h.nd, h.an, by rw [List.length_set]; exact h.ln, fun y b m hb hl => ?_⟩
  by_cases e : x = y
  · subst e
    obtain rfl := Option.some.inj (ha.symm.trans hb)
    rw [List.getElem?_set_self (by rw [← h.ln]; exact (List.getElem?_eq_some_iff.mp ha).1)] at hl
    obtain rfl := Option.some.inj hl
    exact upd_same
  · rw [List.getElem?_set_ne e] at hl
    rw [upd_ne (fun z => e (nodup_at h.nd ha (by rw [hb, z])))]
    exact h.it y b m hb hl
theorem LL.keep {H0 H H' : Hp} {wl : Addr} {as : List Addr} {ws : List (List Nat)} (h : LL H0 H wl as ws) (k : ∀ b o, (b = wl ∨ b ∈ as) → H b = some o → H' b = some o) : LL H0 H' wl as ws :=
  ⟨k _ _ (.inl rfl) h.w, h.wn, h.wa, h.nd, h.an, h.ln, fun x a l ha hl => k _ _ (.inr (List.mem_of_getElem? ha)) (h.it x a l ha hl)⟩
theorem LL.same {H0 H H' : Hp} {wl : Addr} {as : List Addr} {ws : List (List Nat)} (h : LL H0 H wl as ws) (s : Same H H') : LL H0 H' wl as ws := h.keep fun b o _ e => s _ _ e
theorem LL.free {H0 H : Hp} {wl D : Addr} {as : List Addr} {ws : List (List Nat)} (h : LL H0 H wl as ws) (hD : H D = none) : D ≠ wl ∧ D ∉ as := by
  refine ⟨(ne_of_none h.w hD).symm, fun hm => ?_⟩
  obtain ⟨x, hx⟩ := List.getElem?_of_mem hm
  have hl : x < ws.length := by
    rw [← h.ln]
    exact (List.getElem?_eq_some_iff.mp hx).1
  have := h.it x D _ hx (List.getElem?_eq_getElem hl)
  rw [hD] at this
  cases this
/-- one more empty list -/
theorem LL.snoc {H0 H : Hp} {wl a : Addr} {as : List Addr} {n : Nat} (h : LL H0 H wl as (List.replicate n [])) (ha : H a = none) (h0 : H0 a = none) : LL H0 (upd (upd H a (lN [])) wl (.lst (as.map V.ref ++ [.ref a]))) wl (as ++ [a]) (List.replicate (n + 1) []) := by
  have naw : a ≠ wl := fun e => by
    have := h.w
    rw [← e, ha] at this
    cases this
  have hna : a ∉ as := fun hm => by
    obtain ⟨x, hx⟩ := List.getElem?_of_mem hm
    have hl : x < n := by
      have := (List.getElem?_eq_some_iff.mp hx).1
      have := h.ln
      rw [List.length_replicate] at this
      omega
    have := h.it x a [] hx (by rw [List.getElem?_replicate, if_pos hl])
    rw [ha] at this
    cases this
  refine ⟨by rw [upd_same, List.map_append]; rfl, h.wn, ?_, ?_, ?_, by rw [List.length_append, h.ln, List.length_replicate, List.length_replicate]; rfl, fun x b l hb hl => ?_⟩
  · rw [List.mem_append, List.mem_singleton]
    rintro (e | e)
    · exact h.wa e
    · exact naw e.symm
  · rw [List.nodup_append]
    exact ⟨h.nd, by simp, fun x hx y hy => by rw [List.mem_singleton.mp hy]; exact fun e => hna (e ▸ hx)⟩
  · intro b hb
    rcases List.mem_append.mp hb with hb | hb
    · exact h.an b hb
    · rw [List.mem_singleton.mp hb]
      exact h0
  · rw [List.getElem?_replicate] at hl
    obtain rfl : [] = l := by
      by_cases e : x < n + 1
      · rw [if_pos e] at hl
        exact Option.some.inj hl
      · rw [if_neg e] at hl
        cases hl
    by_cases hx : x < as.length
    · rw [List.getElem?_append_left hx] at hb
      have hm := List.mem_of_getElem? hb
      have h1 : b ≠ wl := fun e => h.wa (e ▸ hm)
      have h2 : b ≠ a := fun e => hna (e ▸ hm)
      rw [upd_ne h1, upd_ne h2]
      refine h.it x b [] hb ?_
      rw [List.getElem?_replicate, if_pos]
      have := h.ln
      rw [List.length_replicate] at this
      omega
    · have hxl := (List.getElem?_eq_some_iff.mp hb).1
      rw [List.length_append] at hxl
      have : x = as.length := by
        have : x < as.length + 1 := hxl
        omega
      subst this
      rw [List.getElem?_append_right (Nat.le_refl _), Nat.sub_self] at hb
      obtain rfl := Option.some.inj hb
      rw [upd_ne naw, upd_same]
/-! #### where the edges wait -/
def WF (n : Nat) (f : Nat → List Nat) (ws : List (List Nat)) : Prop := ws.length = n ∧ ∀ (x : Nat) (l : List Nat), ws[x]? = some l → ∀ a, l.count a = (f a).count x
theorem WF.step {n i s : Nat} {f : Nat → List Nat} {ws : List (List Nat)} {l : List Nat} (h : WF n f ws) (hl : ws[s]? = some l) : WF n (fun a => if a = i then f a ++ [s] else f a) (ws.set s (l ++ [i])) := by
  refine ⟨by rw [List.length_set]; exact h.1, fun x m hm a => ?_⟩
  by_cases e : s = x
  · subst e
    rw [List.getElem?_set_self (List.getElem?_eq_some_iff.mp hl).1] at hm
    obtain rfl := Option.some.inj hm
    rw [List.count_append, h.2 s l hl a]
    by_cases ea : a = i
    · subst ea
      show _ = (if a = a then f a ++ [s] else f a).count s
      rw [if_pos rfl, List.count_append]
      simp
    · show _ = (if a = i then f a ++ [s] else f a).count s
      rw [if_neg ea]
      have : ([i] : List Nat).count a = 0 := by simp [List.count_cons, show ¬ i = a from fun z => ea z.symm]
      omega
  · rw [List.getElem?_set_ne e] at hm
    rw [h.2 x m hm a]
    by_cases ea : a = i
    · show _ = (if a = i then f a ++ [s] else f a).count x
      rw [if_pos ea, List.count_append]
      have : ([s] : List Nat).count x = 0 := by simp [List.count_cons, e]
      omega
    · show _ = (if a = i then f a ++ [s] else f a).count x
      rw [if_neg ea]
theorem WF.cong {n : Nat} {f g : Nat → List Nat} {ws : List (List Nat)} (h : WF n f ws) (e : ∀ a, f a = g a) : WF n g ws := by
  have : f = g := funext e
  rw [← this]
  exact h
theorem WF.nil {n : Nat} {f : Nat → List Nat} (h : ∀ a, f a = []) : WF n f (List.replicate n []) := by
  refine ⟨List.length_replicate, fun x l hl a => ?_⟩
  rw [List.getElem?_replicate] at hl
  split at hl
  · obtain rfl := Option.some.inj hl
    rw [h a] <;> rfl
  · cases hl
def nds (es : List GE) (a : Nat) : List Nat := ((es[a]?).map needs).getD []
def upN (g : Nat → List Nat) (i j a : Nat) : List Nat := if a < i then g a else if a = i then (g i).take j else []
theorem upN_step {g : Nat → List Nat} {i j s : Nat} (h : (g i)[j]? = some s) (a : Nat) : (if a = i then upN g i j a ++ [s] else upN g i j a) = upN g i (j + 1) a := by
  unfold upN
  by_cases e : a = i
  · subst e
    rw [if_pos rfl, if_neg (Nat.lt_irrefl _), if_neg (Nat.lt_irrefl _), if_pos rfl, if_pos rfl, List.take_succ, h]
    rfl
  · rw [if_neg e]
    by_cases l : a < i
    · rw [if_pos l, if_pos l]
    · rw [if_neg l, if_neg l, if_neg e, if_neg e]
theorem upN_next {g : Nat → List Nat} {i : Nat} (a : Nat) : upN g i (g i).length a = upN g (i + 1) 0 a := by
  unfold upN
  by_cases e : a = i
  · subst e
    rw [if_neg (Nat.lt_irrefl _), if_pos rfl, if_pos (Nat.lt_succ_self _), List.take_length]
  · by_cases l : a < i
    · rw [if_pos l, if_pos (by omega)]
    · rw [if_neg l, if_neg e, if_neg (by omega)]
      split <;> rfl
theorem upN_zero {g : Nat → List Nat} (a : Nat) : upN g 0 0 a = [] := by
  unfold upN
  rw [if_neg (Nat.not_lt_zero _)]
  split <;> rfl
theorem upN_all {es : List GE} (a : Nat) : upN (nds es) es.length 0 a = nds es a := by
  unfold upN
  by_cases l : a < es.length
  · rw [if_pos l]
  · rw [if_neg l]
    have : nds es a = [] := by
      unfold nds
      rw [List.getElem?_eq_none (by omega)]
      rfl
    rw [this]
    split <;> rfl
theorem WF.done {n : Nat} {es : List GE} {ws : List (List Nat)} (h : WF n (nds es) ws) : WOk n es ws := by
  refine ⟨h.1, fun x l hl => ⟨fun a ha => ?_, fun a e he => ?_⟩⟩
  · have h1 := h.2 x l hl a
    have h2 : 0 < l.count a := List.count_pos_iff.mpr ha
    by_cases q : a < es.length
    · exact q
    · have : nds es a = [] := by
        unfold nds
        rw [List.getElem?_eq_none (by omega)]
        rfl
      rw [this] at h1
      have h1 : l.count a = 0 := h1
      omega
  · rw [h.2 x l hl a]
    unfold nds
    rw [he]
    rfl
theorem ms_begin {es : List GE} : MsF es [] [] (es.map fun e => ((needs e).length : Int)) := by
  refine ⟨List.length_map .., fun a e he => ?_⟩
  rw [List.getElem?_map, he]
  show some _ = some _
  congr 1
  have h1 : dn [] e = 0 := by
    unfold dn
    rw [List.countP_eq_zero]
    intro y _
    simp
  rw [h1]
  show ((needs e).length : Int) = ((needs e).length : Int) - ((0 : Nat) : Int) - ((0 : Nat) : Int)
  omega
theorem ms_begin0 {es : List GE} {O : List Nat} : CmF es O (es.map fun e => ((needs e).length : Int)) := fun a e he h => by
  rw [List.getElem?_map, he] at h
  have h : ((needs e).length : Int) = 0 := Option.some.inj h
  have := List.length_pos_iff.mpr (needs_ne e)
  omega
theorem ms_end {n f : Nat} {es : List GE} {ws : List (List Nat)} {P w : List Nat} {ms : List Int} (hw : WOk n es ws) (hf : ws[f]? = some w) (hfP : f ∉ P) (h : MsF es P w ms) : MsF es (P ++ [f]) [] ms := by
  refine ⟨h.1, fun a e he => ?_⟩
  rw [h.2 a e he, dn_snoc hfP, (hw.2 f w hf).2 a e he]
  congr 1
  show _ = _ - _ - ((0 : Nat) : Int)
  omega
theorem fin_step {n j a f : Nat} {es : List GE} {ends O P w : List Nat} {ws : List (List Nat)} {ch : List (Option Nat)} {ms : List Int} {e : GE} {m : Int} (I : FinI n es ends O ch) (hw : WOk n es ws) (hf : ws[f]? = some w) (hfP : f ∉ P) (hP : ∀ y ∈ P ++ [f], y ∈ O)
    (M : MsF es P (w.take j) ms) (C : CmF es O ms) (hj : w[j]? = some a) (he : es[a]? = some e) (hm : ms[a]? = some m) (hs : e.s < n) (hne : e.s ∉ ends) :
    MsF es P (w.take (j + 1)) (ms.set a (m - 1)) ∧ (m - 1 = 0 → ch[e.s]? = some none → FinI n es ends (O ++ [e.s]) (ch.set e.s (some a)) ∧ CmF es (O ++ [e.s]) (ms.set a (m - 1))) ∧
    (¬ (m - 1 = 0 ∧ ch[e.s]? = some none) → CmF es O (ms.set a (m - 1))) := by
  have M' := ms_step M hj he hm
  have hal := (List.getElem?_eq_some_iff.mp hm).1
  have oth : ∀ {b : Nat} {g : GE} {O' : List Nat}, b ≠ a → es[b]? = some g → (∀ x ∈ O, x ∈ O') → (ms.set a (m - 1))[b]? = some 0 → g.s ∈ O' := fun {b g O'} hb hg hO h => by
    rw [List.getElem?_set_ne (Ne.symm hb)] at h
    exact hO _ (C b g hg h)
  refine ⟨M', fun h0 hc => ⟨I.add he hs hne hc fun y hy => ?_, fun b g hg h => ?_⟩, fun hn b g hg h => ?_⟩
  · refine hP y (ms_zero hw hf hfP M' he ?_ y hy)
    rw [List.getElem?_set_self hal, h0]
  · by_cases hb : b = a
    · subst hb
      obtain rfl := Option.some.inj (he.symm.trans hg)
      exact List.mem_append_right _ (List.mem_singleton.mpr rfl)
    · exact oth hb hg (fun x hx => List.mem_append_left _ hx) h
  · by_cases hb : b = a
    · subst hb
      obtain rfl := Option.some.inj (he.symm.trans hg)
      rw [List.getElem?_set_self hal] at h
      have h := Option.some.inj h
      have hcl : e.s < ch.length := by rw [I.cl]; exact hs
      have hcs : ch[e.s]? = some (ch[e.s]'hcl) := List.getElem?_eq_getElem hcl
      cases hcx : ch[e.s]'hcl with
      | none => exact absurd ⟨h, by rw [hcs, hcx]⟩ hn
      | some b2 => exact I.mem _ b2 (by rw [hcs, hcx])
    · exact oth hb hg (fun x hx => hx) h
theorem fin_begin {n : Nat} {es : List GE} {ends : List Nat} (nd : ends.Nodup) (hl : ∀ x ∈ ends, x < n) : FinI n es ends ends (List.replicate n none) := by
  refine ⟨nd, hl, List.length_replicate, fun x h => h, fun x h => by rw [List.getElem?_replicate, if_pos (hl x h)], fun x a h => ?_, fun i x h => .inl (List.mem_of_getElem? h)⟩
  rw [List.getElem?_replicate] at h
  split at h <;> cases h
/-! #### webs -/
section
variable {W : Web}
theorem sp_lt {a : Nat} {p : Int} (h : Pl W a p) : spN W a p < stN W.ns W.ns.length := by
  have h1 := h.lt
  obtain ⟨nt, h2, _⟩ := h
  have h3 := (List.getElem?_eq_some_iff.mp h2).1
  have := st_mono (ns := W.ns) (show a + 1 ≤ W.ns.length by omega)
  omega
theorem geX_mem {y : Nat × Nat × Ed} (h : y ∈ exOf W) : ∃ nt, W.ns[y.1]? = some nt ∧ y.2.2 ∈ nt.2 ∧ y.1 < W.ns.length := by
  obtain ⟨nt, h1, h2, h3⟩ := ex_mem h
  exact ⟨nt, h2, List.mem_of_getElem? h3, h1⟩
theorem needs_lt (o : OkW W) {y : Nat × Nat × Ed} (h : y ∈ exOf W) : ∀ x ∈ needs (geX W y), x < stN W.ns W.ns.length := by
  obtain ⟨nt, h1, h2, _⟩ := geX_mem h
  intro x hx
  rcases List.mem_cons.mp (show x ∈ spN W y.1 y.2.2.t :: (y.2.2.c.map fun c => stN W.ns c.toNat).toList from hx) with rfl | hx
  · exact sp_lt (pl_t o h1 h2)
  · cases hce : y.2.2.c with
    | none => rw [hce] at hx; cases hx
    | some c =>
      rw [hce] at hx
      rw [List.mem_singleton.mp hx]
      exact sp_lt (pl_c o h1 h2 hce)
theorem s_lt (o : OkW W) {y : Nat × Nat × Ed} (h : y ∈ exOf W) : (geX W y).s < stN W.ns W.ns.length := by
  obtain ⟨nt, h1, h2, _⟩ := geX_mem h
  exact sp_lt (pl_p o h1 h2)
theorem s_end (o : OkW W) {y : Nat × Nat × Ed} (h : y ∈ exOf W) : (geX W y).s ∉ endsOf W := fun hm => by
  obtain ⟨nt, h1, h2, _⟩ := geX_mem h
  obtain ⟨b, nt', hb, e⟩ := (ends_mem o).mp hm
  obtain ⟨rfl, e2⟩ := sp_inj (pl_p o h1 h2) (pl_end o hb) e
  obtain rfl := Option.some.inj (h1.symm.trans hb)
  have := (o.ed nt (List.mem_of_getElem? h1) _ h2).p
  omega
theorem ends_lt (o : OkW W) : ∀ x ∈ endsOf W, x < stN W.ns W.ns.length := fun x hx => by
  obtain ⟨a, nt, h, rfl⟩ := (ends_mem o).mp hx
  exact sp_lt (pl_end o h)
theorem ends_nd (o : OkW W) : (endsOf W).Nodup := by
  unfold endsOf
  rw [List.nodup_iff_pairwise_ne, List.pairwise_map]
  refine List.Pairwise.imp_of_mem ?_ (List.nodup_iff_pairwise_ne.mp List.nodup_range)
  intro a b ha hb hab e
  have pe : ∀ {c : Nat}, c ∈ List.range W.ns.length → ∃ nt, W.ns[c]? = some nt ∧ stN W.ns (c + 1) - 1 = spN W c (nt.1 - 1) := fun {c} hc => by
    have hn : W.ns[c]? = some (W.ns[c]'(List.mem_range.mp hc)) := List.getElem?_eq_getElem _
    refine ⟨_, hn, ?_⟩
    have := o.pos _ (List.mem_of_getElem? hn)
    unfold spN
    rw [st_succ hn]
    omega
  obtain ⟨nt, h1, e1⟩ := pe ha
  obtain ⟨nt', h2, e2⟩ := pe hb
  rw [e1, e2] at e
  exact hab (sp_inj (pl_end o h1) (pl_end o h2) e).1
theorem st_le (o : OkW W) : stN W.ns W.ns.length ≤ 4000 := by
  rw [st_all]
  have h1 := o.sp
  have : (((W.ns.map fun n => n.1.toNat).sum : Nat) : Int) = (W.ns.map (·.1)).sum := by
    have go : ∀ l : List (Int × List Ed), (∀ n ∈ l, 1 ≤ n.1) → (((l.map fun n => n.1.toNat).sum : Nat) : Int) = (l.map (·.1)).sum := by
      intro l
      induction l with
      | nil => intro _; rfl
      | cons n l ih =>
        intro h
        have h1 := h n List.mem_cons_self
        have h2 := ih fun m hm => h m (List.mem_cons_of_mem _ hm)
        rw [List.map_cons, List.map_cons, List.sum_cons, List.sum_cons]
        omega
    exact go _ o.pos
  omega
theorem ges_len (o : OkW W) : (gesOf W).length ≤ 8000 := by
  have h1 := o.se
  have : ((gesOf W).length : Int) = (W.ns.map fun n => (n.2.length : Int)).sum := by
    have go : ∀ i, i ≤ W.ns.length → ((gesUp W i).length : Int) = ((W.ns.take i).map fun n => (n.2.length : Int)).sum := by
      intro i
      induction i with
      | zero => intro _; rfl
      | succ i ih =>
        intro hi
        have hn : W.ns[i]? = some (W.ns[i]'(by omega)) := List.getElem?_eq_getElem _
        have e1 : gesUp W (i + 1) = gesUp W i ++ (edsN W i).map (geOf W i) := by
          unfold gesUp
          rw [List.range_succ, List.map_append, List.flatten_append]
          simp
        have e2 : edsN W i = (W.ns[i]'(by omega)).2 := by
          unfold edsN
          rw [hn]
          rfl
        rw [e1, List.length_append, List.length_map, e2, List.take_succ, hn, List.map_append, List.sum_append, ← ih (by omega)]
        simp
    have := go W.ns.length (Nat.le_refl _)
    rw [List.take_length] at this
    exact this
  omega
theorem ex_len : (exOf W).length = (gesOf W).length := by
  have := congrArg List.length (ex_ges W W.ns.length)
  rw [List.length_map] at this
  exact this
end
end K67

set_option Elab.async false
set_option linter.all false
set_option pp.maxSteps 900
set_option maxRecDepth 100000
set_option maxHeartbeats 4000000
namespace K67
open PySem PySem.Spec PyProof.Rows L2
open TL (tl)
/-- only p and cl are written -/
def Fr (p cl : Addr) (H H' : Hp) : Prop := ∀ b o, H b = some o → b ≠ p → b ≠ cl → H' b = some o
theorem Fr.of {p cl : Addr} {H H' : Hp} (s : Same H H') : Fr p cl H H' := fun b o e _ _ => s b o e
theorem Fr.trans {p cl : Addr} {H H' H'' : Hp} (a : Fr p cl H H') (b : Same H' H'') : Fr p cl H H'' := fun c o e h1 h2 => b _ _ (a c o e h1 h2)
theorem no_of {H H' : Hp} {a : Addr} (s : Same H H') (h : H' a = none) : H a = none := by
  cases e : H a with
  | none => rfl
  | some o => rw [s _ _ e] at h; cases h
theorem Fr.kx {C CE p cl dx : Addr} {H H' : Hp} {fs : List (Str × V)} {l : List V} (f : Fr p cl H H') (hp : H p = some (.ins C dx fs)) (hc : H cl = some (.lst l)) (n : C ≠ CE) : Kx CE H H' := by
  refine ⟨fun b xs e => f b _ e ?_ ?_, fun b dx' fs' e => f b _ e ?_ ?_⟩
  · rintro rfl
    rw [hp] at e
    cases e
  · rintro rfl
    rw [hc] at e
    cases e
  · rintro rfl
    rw [hp] at e
    injection e with e
    injection e with e
    exact n e
  · rintro rfl
    rw [hc] at e
    cases e
/-- a chart, as far as finish wants it -/
structure ChB (H : Hp) (C CE : Addr) (W : Web) (p dx cl el dl : Addr) (xs : List V) (fs : List (Str × V)) : Prop where
  hp : H p = some (.ins C dx fs)
  sc : fs.lookup ("spot_count" : Str) = some (.int (stN W.ns W.ns.length : Nat))
  ed : fs.lookup ("edges" : Str) = some (.ref el)
  en : fs.lookup ("ends" : Str) = some (.ref dl)
  ch : fs.lookup ("choice" : Str) = some (.ref cl)
  he : H el = some (.lst xs)
  hx : EdL CE H W xs (exOf W)
  hd : H dl = some (lN (endsOf W))
  ec : el ≠ cl
  dc : dl ≠ cl
  ep : C ≠ CE
  ln : fs.length < 900
def spFi (C CE : Addr) : Sp := fun vs H Q _ => ∃ (p dx cl el dl : Addr) (xs : List V) (fs : List (Str × V)) (W : Web), vs = [.ref p] ∧ ChB H C CE W p dx cl el dl xs fs ∧ OkW W ∧ H cl = some (.lst ((List.replicate (stN W.ns W.ns.length) none).map oN)) ∧
  ∀ (H' : Hp) (ol : Addr) (O : List Nat) (ch : List (Option Nat)), Fr p cl H H' → H ol = none → H' ol = some (lN O) → H' cl = some (.lst (ch.map oN)) → H' p = some (.ins C dx (putF "order" (.ref ol) fs)) →
    FinI (stN W.ns W.ns.length) (gesOf W) (endsOf W) O ch → (∀ x, x ∈ O ↔ Fn (gesOf W) (endsOf W) x) → Q .non H'
theorem ixN_at {n j : Nat} (hj : j < n) : ixN n (j : Int) = some j := by
  unfold ixN
  rw [if_pos (Int.natCast_nonneg _), if_pos (by omega), Int.toNat_natCast]
theorem set_map {α β : Type} (f : α → β) (l : List α) (j : Nat) (x : α) : (l.map f).set j (f x) = (l.set j x).map f := List.map_set.symm
structure FiD (H : Hp) (C p dx cl wl ml ol : Addr) (as : List Addr) (fs : List (Str × V)) (l : List V) : Prop where
  hp : H p = some (.ins C dx fs)
  hc : H cl = some (.lst l)
  nw : H wl = none
  na : ∀ a ∈ as, H a = none
  nm : H ml = none
  no : H ol = none
  mw : ml ≠ wl
  ma : ml ∉ as
  ow : ol ≠ wl
  oa : ol ∉ as
  om : ol ≠ ml
structure FiH (H H' : Hp) (C p dx cl wl ml ol : Addr) (as : List Addr) (ws : List (List Nat)) (fs : List (Str × V)) (O : List Nat) (ch : List (Option Nat)) (ms : List Int) : Prop where
  fr : Fr p cl H H'
  ll : LL H H' wl as ws
  em : H' ml = some (.lst (ms.map V.int))
  eo : H' ol = some (lN O)
  ec : H' cl = some (.lst (ch.map oN))
  ep : H' p = some (.ins C dx fs)
section
variable {H H' : Hp} {C p dx cl wl ml ol : Addr} {as : List Addr} {ws : List (List Nat)} {fs fs0 : List (Str × V)} {l : List V} {O O' : List Nat} {ch ch' : List (Option Nat)} {ms ms' : List Int}
theorem FiH.putM (h : FiH H H' C p dx cl wl ml ol as ws fs O ch ms) (D : FiD H C p dx cl wl ml ol as fs0 l) : FiH H (upd H' ml (.lst (ms'.map V.int))) C p dx cl wl ml ol as ws fs O ch ms' := by
  refine ⟨fun b o e h1 h2 => ?_, h.ll.keep fun b o hb e => ?_, upd_same, ?_, ?_, ?_⟩
  · rw [upd_ne (ne_of_none e D.nm)]
    exact h.fr b o e h1 h2
  · rw [upd_ne (by rintro rfl; rcases hb with hb | hb; exact D.mw hb; exact D.ma hb)]
    exact e
  · rw [upd_ne D.om]
    exact h.eo
  · rw [upd_ne (ne_of_none D.hc D.nm)]
    exact h.ec
  · rw [upd_ne (ne_of_none D.hp D.nm)]
    exact h.ep
theorem FiH.putO (h : FiH H H' C p dx cl wl ml ol as ws fs O ch ms) (D : FiD H C p dx cl wl ml ol as fs0 l) : FiH H (upd H' ol (lN O')) C p dx cl wl ml ol as ws fs O' ch ms := by
  refine ⟨fun b o e h1 h2 => ?_, h.ll.keep fun b o hb e => ?_, ?_, upd_same, ?_, ?_⟩
  · rw [upd_ne (ne_of_none e D.no)]
    exact h.fr b o e h1 h2
  · rw [upd_ne (by rintro rfl; rcases hb with hb | hb; exact D.ow hb; exact D.oa hb)]
    exact e
  · rw [upd_ne D.om.symm]
    exact h.em
  · rw [upd_ne (ne_of_none D.hc D.no)]
    exact h.ec
  · rw [upd_ne (ne_of_none D.hp D.no)]
    exact h.ep
theorem FiH.putC (h : FiH H H' C p dx cl wl ml ol as ws fs O ch ms) (D : FiD H C p dx cl wl ml ol as fs0 l) : FiH H (upd H' cl (.lst (ch'.map oN))) C p dx cl wl ml ol as ws fs O ch' ms := by
  refine ⟨fun b o e h1 h2 => ?_, h.ll.keep fun b o hb e => ?_, ?_, ?_, upd_same, ?_⟩
  · rw [upd_ne h2]
    exact h.fr b o e h1 h2
  · rw [upd_ne]
    · exact e
    · rintro rfl
      rcases hb with rfl | hb
      · exact absurd D.hc (by rw [D.nw]; intro z; cases z)
      · exact absurd D.hc (by rw [D.na _ hb]; intro z; cases z)
  · rw [upd_ne (ne_of_none D.hc D.nm).symm]
    exact h.em
  · rw [upd_ne (ne_of_none D.hc D.no).symm]
    exact h.eo
  · rw [upd_ne]
    · exact h.ep
    · rintro rfl
      exact absurd D.hc (by rw [D.hp]; intro z; cases z)
end
section
variable {X : Cx}
theorem get_pos : PGet X (fun o i H Q => ∃ (p : Addr) (xs : List V) (k : Int) (z : V), o = .ref p ∧ i = .int k ∧ 0 ≤ k ∧ SqL X.K H p xs ∧ atI xs k = some z ∧ Q z H) := by
  intro pins s σ H o i ov iv Q I ro ri h
  obtain ⟨p, xs, k, z, rfl, rfl, h0, hq, he, q⟩ := h
  cases ro
  obtain ⟨t, rfl⟩ := ri
  obtain ⟨its, r, pl, hz⟩ := I.list hq
  obtain ⟨j, h1, h2, h3, h4, h5⟩ := atI_get he
  obtain ⟨w, ew, rw'⟩ := r.get h2
  have hl := r.length
  have hn := line63
  have hj : k.toNat = j := by
    rw [seqIndex_of h0 h5] at h1
    exact Option.some.inj h1
  exact wpAny_getItem_list pl.isList h0 (by omega) (by rw [hj]; simpa using ew) ⟨z, H, I, rw', q⟩
end
section
variable {P : Program} {w : World} {K : PySem.W.Frag} {mg : Str → Option Value} {base : Heap}
theorem scFi : FnScope ["self", "waits", "missing", "at", "edge", "spot", "done", "finished", "_"] ["self"] (defScope sFi) := ⟨rfl, rfl, rfl, by decide +kernel, rfl, by decide +kernel, by decide +kernel⟩
theorem ok_fi {f C CE fIU fIF fIO fFi fRe fSN : Addr} {fd fdSN : FuncData} (F : Fun K "finish" "Chart.finish" sFi f fd) (T : Bn mg) (CC : ChK K C fIU fIF fIO fFi fRe) (EE : ClA K CE eNames) (mSN : Meth K CE "spots_needed" fSN)
    (GSN : FnOk P w K mg base CX0 1 fSN fdSN ["self"] (spSN CE)) (bSN : L2.Binds K fdSN ["self"] []) : FnOk P w K mg base CX0 2 f fd ["self"] (spFi C CE) := by
  refine F.ok scFi (fun vs H Q E h => ?_) (fun cdv A outer s H vs Q E hr h => ?_)
  · obtain ⟨a1, a2, a3, a4, a5, a6, a7, a8, rfl, _⟩ := h
    rfl
  · obtain ⟨p, dx, cl, el, dl, xs, fs, W, rfl, B, okw, hcl, kq⟩ := h
    have na := fun (f : Str) (h : f ∈ cNames) => CC.a.na f h
    have hn := st_le okw
    have hgl := ges_len okw
    have hxl : xs.length = (gesOf W).length := B.hx.1.trans ex_len
    refine ⟨_, (pss_cons (ps_setLc (i := 1) (own := [("_", 8)]) (g := gName 8) (tt := tYes) (by rfl) scFi.nd rfl rfl (sw_true rfl rfl rfl (by decide +kernel)) (pi_range1 (by rfl) T.rng (pa_cons (pe_fld (pv 0) rfl) pa_nil)) (blkOk_by (own := [("_", 8)]) (N := ["self", "waits", "missing", "at", "edge", "spot", "done", "finished", "_"]) (sc := defScope sFi) (by decide +kernel)) (fun _ _ _ _ _ => (pg_name (i := 8) scFi.nd rfl (Or.inl rfl))) (fun _ _ _ _ _ => pts_nil) (fun _ _ _ _ _ => (pe_lst pa_nil)))
      (pss_cons (ps_set (i := 2) scFi.nd rfl (Or.inl rfl) (pe_lst pa_nil))
      (pss_cons (ps_for PassesOwn.never rfl (pi_enum (by rfl) T.enu (pa_cons (pe_fld (pv 0) rfl) pa_nil)) (pg_tup (by rfl) (pgs_cons (pg_name (i := 3) scFi.nd rfl (Or.inl rfl)) (pgs_cons (pg_name (i := 4) scFi.nd rfl (Or.inl rfl)) pgs_nil)))
          (pss_cons (ps_expr (qApp (pv 2) (pe_callB call_len_seq (by rfl) T.len PySem.boot_len (pa_cons (pe_meth0 (pv 4) EE.cl mSN GSN hr bSN .nil pass0) pa_nil))))
          (pss_one (ps_for PassesOwn.never rfl (pi_list (pe_meth0 (pv 4) EE.cl mSN GSN hr bSN .nil pass0)) (pg_name (i := 5) scFi.nd rfl (Or.inl rfl))
              (pss_one (ps_expr (qApp (pe_ix ix_list (pv 1) (pv 5) (fun _ _ => rfl)) (pv 3))))))))
      (pss_cons (ps_fld (pv 0) (pe_callTy call_list_of (by rfl) T.lst (by decide +kernel) (pa_cons (pe_fld (pv 0) rfl) pa_nil)) rfl)
      (pss_cons (ps_set (i := 6) scFi.nd rfl (Or.inl rfl) pe_int)
      (pss_one (ps_while PassesOwn.never (pt_cmpR op_lt (pv 6) (pe_callB call_len_seq (by rfl) T.len PySem.boot_len (pa_cons (pe_fld (pv 0) rfl) pa_nil)) (nomark _))
          (pss_cons (ps_set (i := 7) scFi.nd rfl (Or.inl rfl) (pe_ix ix_list (pe_fld (pv 0) rfl) (pv 6) (fun _ _ => rfl)))
          (pss_cons (ps_for PassesOwn.never rfl (pi_list (pe_ix ix_list (pv 1) (pv 7) (fun _ _ => rfl))) (pg_name (i := 3) scFi.nd rfl (Or.inl rfl))
              (pss_cons (ps_augS (pv 2) (pv 3) get_pos pe_int ip_sub set_list)
              (pss_cons (ps_set (i := 5) scFi.nd rfl (Or.inl rfl) (pe_fld (pe_ix ix_list (pe_fld (pv 0) rfl) (pv 3) (fun _ _ => rfl)) rfl))
              (pss_one (ps_if (PW.pt (pw_and (pt_cmpR op_eq (pe_ix ix_list (pv 2) (pv 3) (fun _ _ => rfl)) pe_int (nomark _)) (pw_and1 (pt_cmpR op_isN (pe_ix ix_list (pe_fld (pv 0) rfl) (pv 5) (fun _ _ => rfl)) pe_non (nomark _))))) (pss_cons (ps_asg (pv 3) (pg_sub (pe_fld (pv 0) rfl) (pv 5) set_list))
                  (pss_one (ps_expr (qApp (pe_fld (pv 0) rfl) (pv 5))))) pss_nil)))))
          (pss_one (ps_aug (i := 6) scFi.nd rfl (Or.inl rfl) pe_int ip_add))))))))))), ?_⟩
    -- waits
    refine ⟨_, rfl, p, C, dx, fs, _, rfl, B.hp, CC.a.cl, na "spot_count" (by decide +kernel), B.sc, _, rfl, by omega, by omega, fun wl hwl => ?_⟩
    rw [Int.toNat_natCast]
    refine lc_it (walk_range (lo := 0) (n := stN W.ns W.ns.length)) (fun i H' => ∃ as, LL H H' wl as (List.replicate i []) ∧ Same H H') ⟨[], ⟨upd_same, hwl, by simp, List.nodup_nil, (fun a h => by cases h), rfl, fun x a l h => by cases h⟩, same_new hwl⟩ (fun _ _ _ _ => trivial) ?_ ?_
    · rintro i x H2 H2z hi ⟨as, L, s2⟩ ⟨rfl, rfl⟩
      refine ⟨(by rfl), Nat.zero_le _, fun t ht => ⟨as.map V.ref, ?_, ?_, as ++ [t], L.snoc ht (no_of s2 ht), ?_⟩⟩
      · rw [upd_ne (ne_of_none L.w ht)]
        exact L.w
      · rw [List.length_map, L.ln, List.length_replicate, sizeLine_eq]
        omega
      · intro b o eb
        rw [upd_ne (ne_of_none eb hwl), upd_ne (ne_of_none (s2 _ _ eb) ht)]
        exact s2 _ _ eb
    rintro H1 ⟨as, L1, s1⟩
    refine ⟨Nat.zero_le _, fun ml hml => ?_⟩
    generalize hH2 : upd H1 ml _ = H2
    obtain ⟨sml, eml⟩ := freshF hml hH2
    have L2 := L1.same sml
    have hml0 := no_of s1 hml
    have s2 := s1.trans sml
    obtain ⟨hmw, hma⟩ := L1.free hml
    refine ⟨_, rfl, p, C, dx, fs, _, rfl, s2 _ _ B.hp, CC.a.cl, na "edges" (by decide +kernel), B.ed, el, xs, rfl, SqL.of (s2 _ _ B.he), ?_⟩
    refine for_it (walk_enum (K := K) (a := el) (xs := xs)) (fun i σ H' => ∃ (ws : List (List Nat)) (v3 v4 v5 v6 v7 v8 : Option V), σ = [some (.ref p), some (.ref wl), some (.ref ml), v3, v4, v5, v6, v7, v8] ∧ Same H H' ∧ LL H H' wl as ws ∧ WF (stN W.ns W.ns.length) (upN (nds (gesOf W)) i 0) ws ∧ (∀ l ∈ ws, l.length ≤ 2 * i) ∧ H' ml = some (.lst ((((gesOf W).take i).map fun e => ((needs e).length : Int)).map V.int)))
      ⟨List.replicate (stN W.ns W.ns.length) [], _, _, _, _, _, _, rfl, s2, L2, WF.nil upN_zero, (fun l hl => by rw [(List.mem_replicate.mp hl).2]; exact Nat.zero_le _), eml⟩ (fun i σ H' _ ⟨_, _, _, _, _, _, _, _, s, _⟩ => SqL.of (s _ _ B.he)) ?_ ?_
    · rintro i x σ H3 H3z hi ⟨ws, v3, v4, v5, v6, v7, v8, rfl, s3, L3, wf3, wl3, em3⟩ ⟨T0, x', y, rfl, hT, hH3, hx, hy⟩
      obtain rfl := Option.some.inj hx
      obtain ⟨sT, eT⟩ := freshF hT hH3.symm
      have hil : i < (exOf W).length := by rw [← B.hx.1]; exact hi
      obtain ⟨q, hq, ⟨dq, fq, hq1, hq2⟩⟩ := B.hx.2 i _ (List.getElem?_eq_getElem hil)
      obtain rfl := Option.some.inj (hq.symm.trans hy)
      have hge := ex_ge (List.getElem?_eq_getElem hil)
      generalize hye : (exOf W)[i] = ye at hge hq2
      have hym : ye ∈ exOf W := by rw [← hye]; exact List.getElem_mem hil
      have s3z := s3.trans sT
      have eob : ∀ {H'}, Same H H' → EOb CE H' W q ye.1 ye.2.1 ye.2.2 := fun {H'} s => EOb.kx ⟨dq, fq, hq1, hq2⟩ (Kx.of s)
      have nl : (needs (geX W ye)).length ≤ 2 := by
        unfold needs
        cases (geX W ye).c <;> simp
      have hnds : nds (gesOf W) i = needs (geX W ye) := by
        unfold nds
        rw [hge]
        rfl
      refine ⟨T0, _, rfl, SqT.of eT, (by rfl), _, _, rfl, _, _, rfl, rfl, ?_⟩
      refine ⟨_, rfl, .inl ⟨rfl, _, SqL.of (sT _ _ em3)⟩, _, rfl, q, dq, fq, rfl, s3z _ _ hq1, hq2.no, q, W, ye.1, ye.2.1, ye.2.2, rfl, eob s3z, fun D H4 s4 hD eD => ⟨D, _, rfl, .inl (SqL.of eD), ?_⟩⟩
      refine ⟨ml, _, _, rfl, rfl, s4 _ _ (sT _ _ em3), ?_, ?_⟩
      · rw [List.length_map, List.length_map, List.length_take, sizeLine_eq]
        omega
      have s04 := s3z.trans s4
      have L4 := L3.same (sT.trans s4)
      have em5 : (upd H4 ml (.lst ((((gesOf W).take i).map fun e => ((needs e).length : Int)).map V.int ++ [.int ((((needs (geOf W ye.1 ye.2.2)).map fun n => V.int (n : Nat)).length : Nat) : Int)]))) ml = some (.lst ((((gesOf W).take (i + 1)).map fun e => ((needs e).length : Int)).map V.int)) := by
        rw [upd_same, List.take_succ, hge, List.map_append, List.map_append, List.length_map]
        rfl
      have s05 : Same H (upd H4 ml (.lst ((((gesOf W).take i).map fun e => ((needs e).length : Int)).map V.int ++ [.int ((((needs (geOf W ye.1 ye.2.2)).map fun n => V.int (n : Nat)).length : Nat) : Int)]))) := fun b o eb => by
        rw [upd_ne (ne_of_none eb hml0)]
        exact s04 _ _ eb
      have L5 : LL H (upd H4 ml (.lst ((((gesOf W).take i).map fun e => ((needs e).length : Int)).map V.int ++ [.int ((((needs (geOf W ye.1 ye.2.2)).map fun n => V.int (n : Nat)).length : Nat) : Int)]))) wl as ws := L4.keep fun b o h eb => by
        rw [upd_ne (by rintro rfl; rcases h with h | h; exact hmw h; exact hma h)]
        exact eb
      generalize upd H4 ml _ = H5 at em5 s05 L5 ⊢
      refine ⟨_, rfl, q, dq, fq, rfl, s05 _ _ hq1, hq2.no, q, W, ye.1, ye.2.1, ye.2.2, rfl, eob s05, fun D2 H6 s6 hD2 eD2 => ⟨D2, rfl, ⟨_, SqL.of eD2⟩, ?_⟩⟩
      refine for_it (walk_list (K := K) (a := D2) (xs := (needs (geX W ye)).map fun n => V.int (n : Nat))) (fun j σ H' => ∃ (ws : List (List Nat)) (v5 : Option V), σ = [some (.ref p), some (.ref wl), some (.ref ml), some (.int (i : Nat)), some (.ref q), v5, v6, v7, v8] ∧ Same H H' ∧ H' D2 = some (.lst ((needs (geX W ye)).map fun n => V.int (n : Nat))) ∧ LL H H' wl as ws ∧ WF (stN W.ns W.ns.length) (upN (nds (gesOf W)) i j) ws ∧ (∀ l ∈ ws, l.length ≤ 2 * i + j) ∧ H' ml = some (.lst ((((gesOf W).take (i + 1)).map fun e => ((needs e).length : Int)).map V.int)))
        ⟨ws, _, rfl, s05.trans s6, eD2, L5.same s6, wf3, wl3, s6 _ _ em5⟩ (fun j σ H' _ ⟨_, _, _, _, h, _⟩ => SqL.of h) ?_ ?_
      rotate_left
      · rintro σ H' ⟨ws, v5, rfl, s7, eD, L7, wf7, wl7, em7⟩
        rw [List.length_map] at wf7 wl7
        refine ⟨ws, _, _, _, _, _, _, rfl, s7, L7, wf7.cong fun a => ?_, fun l hl => ?_, em7⟩
        · rw [← upN_next, hnds]
        · have := wl7 l hl
          omega
      obtain ⟨hD2w, hD2a⟩ := L5.free hD2
      clear wf3 wl3 L3 L4 L5 em5 eD2 s6 s05 v5
      rintro j x σ H7 H7z hj ⟨ws, v5, rfl, s7, eD7, L7, wf7, wl7, em7⟩ ⟨rfl, hx⟩
      rw [List.length_map] at hj
      rw [List.getElem?_map] at hx
      cases hz : (needs (geX W ye))[j]? with
      | none => rw [hz] at hx; cases hx
      | some z =>
      rw [hz] at hx
      obtain rfl := Option.some.inj hx
      have hzl := needs_lt okw hym z (List.mem_of_getElem? hz)
      have hwsz : ws[z]? = some (ws[z]'(by rw [wf7.1]; exact hzl)) := List.getElem?_eq_getElem _
      have hasz : as[z]? = some (as[z]'(by rw [L7.ln, wf7.1]; exact hzl)) := List.getElem?_eq_getElem _
      generalize ws[z]'_ = l at hwsz
      generalize as[z]'_ = a at hasz
      have hel := L7.it z a l hasz hwsz
      have hll := wl7 l (List.mem_of_getElem? hwsz)
      have ham := List.mem_of_getElem? hasz
      refine ⟨_, rfl, _, rfl, wl, _, (z : Nat), .ref a, rfl, rfl, SqL.of L7.w, atI_nat (by rw [List.getElem?_map, hasz]; rfl), .inl ⟨rfl, _, SqL.of hel⟩, _, rfl, a, _, _, rfl, rfl, hel, ?_, ?_⟩
      · rw [List.length_map, sizeLine_eq]
        omega
      have eL : (HO.lst (l.map (fun n => V.int (n : Nat)) ++ [V.int (i : Nat)])) = lN (l ++ [i]) := by
        unfold lN
        rw [List.map_append]
        rfl
      rw [eL]
      refine ⟨ws.set z (l ++ [i]), _, rfl, fun b o eb => ?_, ?_, L7.put hasz, (wf7.step hwsz).cong fun b => upN_step (by rw [hnds]; exact hz) b, fun m hm => ?_, ?_⟩
      · rw [upd_ne (ne_of_none eb (L7.an a ham))]
        exact s7 _ _ eb
      · rw [upd_ne]
        · exact eD7
        · rintro rfl
          exact hD2a ham
      · rcases List.mem_or_eq_of_mem_set hm with hm | rfl
        · have := wl7 m hm
          omega
        · rw [List.length_append]
          show l.length + 1 ≤ _
          omega
      · rw [upd_ne (by rintro rfl; exact hma ham)]
        exact em7
    rintro σ H3 ⟨ws, v3, v4, v5, v6, v7, v8, rfl, s3, L3, wf3, wl3, em3⟩
    rw [hxl] at wf3 em3
    have wok := (wf3.cong upN_all).done
    rw [List.take_length] at em3
    have hml3 : H3 ml ≠ none := by rw [em3]; intro z; cases z
    -- order
    refine ⟨_, rfl, p, C, dx, fs, _, rfl, s3 _ _ B.hp, CC.a.cl, na "ends" (by decide +kernel), B.en, dl, _, rfl, .inl (SqL.of (s3 _ _ B.hd)), fun ol hol => ?_⟩
    generalize hH4 : upd H3 ol _ = H4
    obtain ⟨sol, eol⟩ := freshF hol hH4
    have s4 := s3.trans sol
    have hol0 := no_of s3 hol
    obtain ⟨how, hoa⟩ := L3.free hol
    have hom : ol ≠ ml := fun e => hml3 (by rw [← e]; exact hol)
    have D : FiD H C p dx cl wl ml ol as fs _ := ⟨B.hp, hcl, hwl, L3.an, hml0, hol0, hmw, hma, how, hoa, hom⟩
    have hpl := B.ln
    refine ⟨_, rfl, p, C, dx, fs, rfl, s4 _ _ B.hp, CC.a.cl, na "order" (by decide +kernel), by omega, ?_⟩
    have fo : (putF "order" (.ref ol) fs).lookup ("order" : Str) = some (.ref ol) := by rw [lookup_putF, if_pos rfl]
    have fc : (putF "order" (.ref ol) fs).lookup ("choice" : Str) = some (.ref cl) := by rw [lookup_putF, if_neg (by decide +kernel)]; exact B.ch
    have fe : (putF "order" (.ref ol) fs).lookup ("edges" : Str) = some (.ref el) := by rw [lookup_putF, if_neg (by decide +kernel)]; exact B.ed
    have G0 : FiH H (upd H4 p (.ins C dx (putF "order" (.ref ol) fs))) C p dx cl wl ml ol as ws (putF "order" (.ref ol) fs) (endsOf W) (List.replicate (stN W.ns W.ns.length) none) ((gesOf W).map fun e => ((needs e).length : Int)) := by
      refine ⟨fun b o e h1 h2 => ?_, (L3.same sol).keep fun b o hb e => ?_, ?_, ?_, ?_, upd_same⟩
      · rw [upd_ne h1]
        exact s4 _ _ e
      · rw [upd_ne]
        · exact e
        · rintro rfl
          rcases hb with rfl | hb
          · exact absurd B.hp (by rw [hwl]; intro z; cases z)
          · exact absurd B.hp (by rw [L3.an _ hb]; intro z; cases z)
      · rw [upd_ne (ne_of_none B.hp hml0).symm]
        exact sol _ _ em3
      · rw [upd_ne (ne_of_none B.hp hol0).symm]
        exact eol
      · rw [upd_ne]
        · exact s4 _ _ hcl
        · rintro rfl
          exact absurd hcl (by rw [B.hp]; intro z; cases z)
    generalize hfs' : putF "order" (.ref ol) fs = fs' at fo fc fe G0
    generalize upd H4 p _ = H5 at G0 ⊢
    have hxs : ∀ {H'}, Fr p cl H H' → EdL CE H' W xs (exOf W) := fun {H'} fr => B.hx.kx (fr.kx B.hp hcl B.ep)
    have hel : ∀ {H'}, Fr p cl H H' → H' el = some (.lst xs) := fun {H'} fr => fr _ _ B.he (by rintro rfl; exact absurd B.hp (by rw [B.he]; intro z; cases z)) B.ec
    refine while_m (fun m σ H' => ∃ (O : List Nat) (d : Nat) (ch : List (Option Nat)) (ms : List Int) (v3 v4 v5 v7 v8 : Option V), σ = [some (.ref p), some (.ref wl), some (.ref ml), v3, v4, v5, some (.int (d : Nat)), v7, v8] ∧ m = stN W.ns W.ns.length - d ∧ d ≤ O.length ∧ FiH H H' C p dx cl wl ml ol as ws fs' O ch ms ∧ FinI (stN W.ns W.ns.length) (gesOf W) (endsOf W) O ch ∧ MsF (gesOf W) (O.take d) [] ms ∧ CmF (gesOf W) O ms) (stN W.ns W.ns.length)
      ⟨endsOf W, 0, _, _, _, _, _, _, _, rfl, rfl, Nat.zero_le _, G0, fin_begin (ends_nd okw) (ends_lt okw), ms_begin, ms_begin0⟩ ?_
    clear G0 H5
    rintro m σ H5 ⟨O, d, ch, ms, v3, v4, v5, v7, v8, rfl, hm, hd, G, I, M, Cm⟩
    refine ⟨_, rfl, _, rfl, p, C, dx, fs', _, rfl, G.ep, CC.a.cl, na "order" (by decide +kernel), fo, ol, _, rfl, .inl (SqL.of G.eo), _, _, rfl, rfl, _, rfl, ?_⟩
    rw [List.length_map]
    by_cases hlt : d < O.length
    rotate_left
    · refine ifF (decide_eq_false (by omega)) ?_
      have hdl : d = O.length := by omega
      subst hdl
      rw [List.take_length] at M
      refine kq H5 ol O ch G.fr hol0 G.eo G.ec (by rw [hfs']; exact G.ep) I (I.done M Cm)
    refine ifT (decide_eq_true (by omega)) ?_
    refine ⟨fun σ' H' => ∃ m', m' < m ∧ ∃ (O : List Nat) (d : Nat) (ch : List (Option Nat)) (ms : List Int) (v3 v4 v5 v7 v8 : Option V), σ' = [some (.ref p), some (.ref wl), some (.ref ml), v3, v4, v5, some (.int (d : Nat)), v7, v8] ∧ m' = stN W.ns W.ns.length - d ∧ d ≤ O.length ∧ FiH H H' C p dx cl wl ml ol as ws fs' O ch ms ∧ FinI (stN W.ns W.ns.length) (gesOf W) (endsOf W) O ch ∧ MsF (gesOf W) (O.take d) [] ms ∧ CmF (gesOf W) O ms, fun σ' H' z => z, ?_⟩
    have hof : O[d]? = some (O[d]'hlt) := List.getElem?_eq_getElem hlt
    generalize O[d]'hlt = fi at hof
    have hfin := I.lt fi (List.mem_of_getElem? hof)
    have hOn := nodup_lt I.nd I.lt
    refine ⟨_, rfl, p, C, dx, fs', _, rfl, G.ep, CC.a.cl, na "order" (by decide +kernel), fo, _, rfl, ol, _, (d : Nat), .int (fi : Nat), rfl, rfl, SqL.of G.eo, atI_nat (by rw [List.getElem?_map, hof]; rfl), ?_⟩
    have hwf : ws[fi]? = some (ws[fi]'(by rw [wok.1]; exact hfin)) := List.getElem?_eq_getElem _
    have haf : as[fi]? = some (as[fi]'(by rw [L3.ln, wok.1]; exact hfin)) := List.getElem?_eq_getElem _
    generalize ws[fi]'_ = w5 at hwf
    generalize as[fi]'_ = a5 at haf
    have ha5 := fun {H'} (h : LL H H' wl as ws) => h.it fi a5 w5 haf hwf
    refine ⟨_, rfl, _, rfl, wl, _, (fi : Nat), .ref a5, rfl, rfl, SqL.of G.ll.w, atI_nat (by rw [List.getElem?_map, haf]; rfl), a5, rfl, ⟨_, SqL.of (ha5 G.ll)⟩, ?_⟩
    have hfP : fi ∉ O.take d := fun hm => by
      obtain ⟨j, hj⟩ := List.getElem?_of_mem hm
      have hjl := (List.getElem?_eq_some_iff.mp hj).1
      rw [List.length_take] at hjl
      rw [List.getElem?_take_of_lt (by omega)] at hj
      have := nodup_at I.nd hj hof
      omega
    have hPf : O.take d ++ [fi] = O.take (d + 1) := by
      rw [List.take_succ, hof]
      rfl
    refine for_it (walk_list (K := K) (a := a5) (xs := w5.map fun n => V.int (n : Nat))) (fun j σ H' => ∃ (O' : List Nat) (ch : List (Option Nat)) (ms : List Int) (v3 v5 : Option V), σ = [some (.ref p), some (.ref wl), some (.ref ml), v3, v4, v5, some (.int (d : Nat)), some (.int (fi : Nat)), v8] ∧ FiH H H' C p dx cl wl ml ol as ws fs' O' ch ms ∧ FinI (stN W.ns W.ns.length) (gesOf W) (endsOf W) O' ch ∧ MsF (gesOf W) (O.take d) (w5.take j) ms ∧ CmF (gesOf W) O' ms ∧ O'.take (d + 1) = O.take (d + 1) ∧ d < O'.length)
      ⟨O, ch, ms, _, _, rfl, G, I, M, Cm, rfl, hlt⟩ (fun j σ H' _ ⟨_, _, _, _, _, _, h, _⟩ => SqL.of (ha5 h.ll)) ?_ ?_
    rotate_left
    · rintro σ H' ⟨O', ch', ms', v3, v5, rfl, G', I', M', C', ht, hl⟩
      rw [List.length_map, List.take_length] at M'
      refine ⟨_, rfl, _, _, rfl, rfl, stN W.ns W.ns.length - (d + 1), by omega, O', d + 1, ch', ms', _, _, _, _, _, rfl, rfl, hl, G', I', ?_, C'⟩
      rw [ht, ← hPf]
      exact ms_end wok hwf hfP M'
    clear G I M Cm ch ms v3 v5 hOn
    rintro j x σ H6 H6z hj ⟨O', ch, ms, v3, v5, rfl, G, I, M, Cm, ht, hl⟩ ⟨rfl, hx⟩
    rw [List.length_map] at hj
    rw [List.getElem?_map] at hx
    cases hwj : w5[j]? with
    | none => rw [hwj] at hx; cases hx
    | some a =>
    rw [hwj] at hx
    obtain rfl := Option.some.inj hx
    have hal := (wok.2 fi w5 hwf).1 a (List.mem_of_getElem? hwj)
    have hax : a < (exOf W).length := by rw [ex_len]; exact hal
    obtain ⟨q, hq, ⟨dq, fq, hq1, hq2⟩⟩ := (hxs G.fr).2 a _ (List.getElem?_eq_getElem hax)
    have hge := ex_ge (List.getElem?_eq_getElem hax)
    generalize hye : (exOf W)[a] = ye at hge hq2
    have hym : ye ∈ exOf W := by rw [← hye]; exact List.getElem_mem hax
    have hml : a < ms.length := by rw [M.1]; exact hal
    have hma2 : ms[a]? = some (ms[a]'hml) := List.getElem?_eq_getElem hml
    generalize ms[a]'hml = mv at hma2
    refine ⟨_, rfl, _, rfl, ml, _, (a : Nat), .int mv, rfl, rfl, Int.natCast_nonneg _, SqL.of G.em, atI_nat (by rw [List.getElem?_map, hma2]; rfl), _, _, rfl, rfl, ml, _, (a : Nat), a, rfl, rfl, G.em, ixN_at (by rw [List.length_map]; exact hml), ?_⟩
    rw [set_map V.int]
    have G1 := G.putM (ms' := ms.set a (mv - 1)) D
    generalize upd H6z ml _ = H7 at G1 ⊢
    have hsn := s_lt okw hym
    obtain ⟨M1, hy1, hn1⟩ := fin_step I wok hwf hfP (fun y hy => by rw [hPf, ← ht] at hy; exact List.mem_of_mem_take hy) M Cm hwj hge hma2 hsn (s_end okw hym)
    obtain ⟨q', hq', ⟨dq', fq', hq1', hq2'⟩⟩ := (hxs G1.fr).2 a _ (List.getElem?_eq_getElem hax)
    obtain rfl := V.ref.inj (Option.some.inj (hq.symm.trans hq'))
    rw [hye] at hq2'
    refine ⟨_, rfl, p, C, dx, fs', _, rfl, G1.ep, CC.a.cl, na "edges" (by decide +kernel), fe, _, rfl, el, xs, (a : Nat), .ref q, rfl, rfl, SqL.of (hel G1.fr), atI_nat hq, q, CE, dq', fq', _, rfl, hq1', EE.cl, EE.na "spot" (by decide +kernel), hq2'.spot, ?_⟩
    have hml2 : a < (ms.set a (mv - 1)).length := by rw [List.length_set]; exact hml
    refine ⟨_, rfl, _, rfl, ml, _, (a : Nat), .int (mv - 1), rfl, rfl, SqL.of G1.em, atI_nat (by rw [List.getElem?_map, List.getElem?_set_self hml]; rfl), rfl, _, rfl, ?_⟩
    have stay : ¬ (mv - 1 = 0 ∧ ch[(geX W ye).s]? = some none) → ∃ (O' : List Nat) (ch' : List (Option Nat)) (ms' : List Int) (v3 v5 : Option V), ([some (.ref p), some (.ref wl), some (.ref ml), some (.int (a : Nat)), v4, some (.int ((geX W ye).s : Nat)), some (.int (d : Nat)), some (.int (fi : Nat)), v8] : _root_.L2.St) = [some (.ref p), some (.ref wl), some (.ref ml), v3, v4, v5, some (.int (d : Nat)), some (.int (fi : Nat)), v8] ∧ FiH H H7 C p dx cl wl ml ol as ws fs' O' ch' ms' ∧ FinI (stN W.ns W.ns.length) (gesOf W) (endsOf W) O' ch' ∧ MsF (gesOf W) (O.take d) (w5.take (j + 1)) ms' ∧ CmF (gesOf W) O' ms' ∧ O'.take (d + 1) = O.take (d + 1) ∧ d < O'.length :=
      fun h => ⟨O', ch, _, _, _, rfl, G1, I, M1, hn1 h, ht, hl⟩
    by_cases h0 : mv - 1 = 0
    rotate_left
    · refine ifF (decide_eq_false fun e => h0 (V.int.inj e)) (ifF rfl (stay fun h => h0 h.1))
    refine ifT (decide_eq_true (by rw [h0])) ?_
    have hcl2 : (geX W ye).s < ch.length := by rw [I.cl]; exact hsn
    have hcs : ch[(geX W ye).s]? = some (ch[(geX W ye).s]'hcl2) := List.getElem?_eq_getElem hcl2
    generalize ch[(geX W ye).s]'hcl2 = c0 at hcs
    refine ⟨_, rfl, p, C, dx, fs', _, rfl, G1.ep, CC.a.cl, na "choice" (by decide +kernel), fc, _, rfl, cl, _, ((geX W ye).s : Nat), oN c0, rfl, rfl, SqL.of G1.ec, atI_nat (by rw [List.getElem?_map, hcs]; rfl), rfl, _, rfl, ?_⟩
    cases c0 with
    | some b => exact ifF rfl (stay fun h => by have := h.2; rw [hcs] at this; cases this)
    | none =>
    obtain ⟨I2, C2⟩ := hy1 h0 hcs
    refine ifT rfl ?_
    refine ⟨_, rfl, _, rfl, p, C, dx, fs', _, rfl, G1.ep, CC.a.cl, na "choice" (by decide +kernel), fc, _, rfl, cl, _, ((geX W ye).s : Nat), (geX W ye).s, rfl, rfl, G1.ec, ixN_at (by rw [List.length_map]; exact hcl2), ?_⟩
    have eC : upd H7 cl (.lst ((ch.map oN).set (geX W ye).s (V.int ((a : Nat) : Int)))) = upd H7 cl (.lst ((ch.set (geX W ye).s (some a)).map oN)) := by
      rw [show V.int ((a : Nat) : Int) = oN (some a) from rfl, set_map oN]
    rw [eC]
    have G2 := G1.putC (ch' := ch.set (geX W ye).s (some a)) D
    generalize upd H7 cl _ = H8 at G2 ⊢
    have hO2 := nodup_lt I.nd I.lt
    refine ⟨_, rfl, p, C, dx, fs', _, rfl, G2.ep, CC.a.cl, na "order" (by decide +kernel), fo, .inl ⟨rfl, _, SqL.of G2.eo⟩, _, rfl, ol, _, _, rfl, rfl, G2.eo, ?_, ?_⟩
    · rw [List.length_map, sizeLine_eq]
      omega
    have eL : (HO.lst (O'.map (fun n => V.int (n : Nat)) ++ [V.int ((geX W ye).s : Nat)])) = lN (O' ++ [(geX W ye).s]) := by
      unfold lN
      rw [List.map_append]
      rfl
    have G3 := G2.putO (O' := O' ++ [(geX W ye).s]) D
    rw [← eL] at G3
    refine ⟨_, _, _, _, _, rfl, G3, I2, M1, C2, ?_, ?_⟩
    · rw [List.take_append_of_le_length (by omega)]
      exact ht
    · rw [List.length_append]
      omega
end
end K67

set_option Elab.async false
set_option linter.all false
set_option pp.maxSteps 900
set_option maxRecDepth 100000
set_option maxHeartbeats 4000000
namespace K67
open PySem PySem.Spec PyProof.Rows L2
open TL (tl)
/-! ### what is reached -/
/-- which edges lead on from a spot, as far as the first i of them -/
def LdF (es : List GE) (ends : List Nat) (n i : Nat) (ls : List (List Nat)) : Prop := ls.length = n ∧ ∀ (x : Nat) (l : List Nat), ls[x]? = some l → ∀ a, a ∈ l ↔ a < i ∧ ∃ e, es[a]? = some e ∧ e.s = x ∧ Op es ends e
theorem LdF.nil {es : List GE} {ends : List Nat} {n : Nat} : LdF es ends n 0 (List.replicate n []) := by
  refine ⟨List.length_replicate, fun x l hl a => ?_⟩
  rw [List.getElem?_replicate] at hl
  split at hl
  · obtain rfl := Option.some.inj hl
    constructor
    · intro h
      cases h
    · rintro ⟨h, _⟩
      exact absurd h (Nat.not_lt_zero _)
  · cases hl
theorem LdF.stay {es : List GE} {ends : List Nat} {n i : Nat} {ls : List (List Nat)} {e : GE} (h : LdF es ends n i ls) (he : es[i]? = some e) (ho : ¬ Op es ends e) : LdF es ends n (i + 1) ls := by
  refine ⟨h.1, fun x l hl a => ?_⟩
  rw [h.2 x l hl a]
  constructor
  · rintro ⟨h1, h2⟩
    exact ⟨by omega, h2⟩
  · rintro ⟨h1, e', h2, h3, h4⟩
    refine ⟨?_, e', h2, h3, h4⟩
    by_cases ha : a = i
    · subst ha
      obtain rfl := Option.some.inj (he.symm.trans h2)
      exact absurd h4 ho
    · omega
theorem LdF.step {es : List GE} {ends : List Nat} {n i : Nat} {ls : List (List Nat)} {e : GE} {l : List Nat} (h : LdF es ends n i ls) (he : es[i]? = some e) (ho : Op es ends e) (hl : ls[e.s]? = some l) : LdF es ends n (i + 1) (ls.set e.s (l ++ [i])) := by
  refine ⟨by rw [List.length_set]; exact h.1, fun x m hm a => ?_⟩
  have other : a ≠ i → (a < i ∧ (∃ e', es[a]? = some e' ∧ e'.s = x ∧ Op es ends e') ↔ a < i + 1 ∧ ∃ e', es[a]? = some e' ∧ e'.s = x ∧ Op es ends e') := fun ha => by
    constructor
    · rintro ⟨h1, h2⟩
      exact ⟨by omega, h2⟩
    · rintro ⟨h1, h2⟩
      exact ⟨by omega, h2⟩
  by_cases hx : e.s = x
  · subst hx
    rw [List.getElem?_set_self (List.getElem?_eq_some_iff.mp hl).1] at hm
    obtain rfl := Option.some.inj hm
    rw [List.mem_append, List.mem_singleton, h.2 _ l hl a]
    by_cases ha : a = i
    · subst ha
      constructor
      · intro _
        exact ⟨by omega, e, he, rfl, ho⟩
      · intro _
        exact .inr rfl
    · rw [← other ha]
      constructor
      · rintro (h | h)
        · exact h
        · exact absurd h ha
      · exact .inl
  · rw [List.getElem?_set_ne hx] at hm
    rw [h.2 x m hm a]
    by_cases ha : a = i
    · subst ha
      constructor
      · rintro ⟨h1, _⟩
        omega
      · rintro ⟨_, e', h2, h3, _⟩
        obtain rfl := Option.some.inj (he.symm.trans h2)
        exact absurd h3 hx
    · exact other ha
/-- what is among the first of the leads has been followed -/
structure ReJ (es : List GE) (ends : List Nat) (s0 : Nat) (st : Nat → Nat) (Wl : List Nat) (d f j : Nat) (l : List Nat) (cam cal : Nat → Prop) : Prop where
  re : ReI es ends s0 st Wl d cam cal
  at_ : Wl[d]? = some f
  go : ∀ a ∈ l.take j, ∀ e, es[a]? = some e → e.g ∈ Wl ∧ ∀ q, e.q = some q → cal q
theorem ReJ.begin {es : List GE} {ends : List Nat} {s0 : Nat} {st : Nat → Nat} {Wl : List Nat} {d f : Nat} {l : List Nat} {cam cal : Nat → Prop} (h : ReI es ends s0 st Wl d cam cal) (hf : Wl[d]? = some f) : ReJ es ends s0 st Wl d f 0 l cam cal := ⟨h, hf, fun a ha => by rw [List.take_zero] at ha; cases ha⟩
theorem ReJ.end_ {es : List GE} {ends : List Nat} {s0 n : Nat} {st : Nat → Nat} {Wl : List Nat} {d f : Nat} {l : List Nat} {ls : List (List Nat)} {cam cal : Nat → Prop} (h : ReJ es ends s0 st Wl d f l.length l cam cal) (hd : LdF es ends n es.length ls) (hl : ls[f]? = some l) : ReI es ends s0 st Wl (d + 1) cam cal := by
  refine { h.re with dn := fun x hx e he hs ho => ?_ }
  rw [List.take_succ, h.at_] at hx
  rcases List.mem_append.mp hx with hx | hx
  · exact h.re.dn x hx e he hs ho
  · have hx : x = f := List.mem_singleton.mp hx
    obtain ⟨a, ha⟩ := List.getElem?_of_mem he
    refine h.go a ?_ e ha
    rw [List.take_length]
    exact (hd.2 f l hl a).mpr ⟨(List.getElem?_eq_some_iff.mp ha).1, e, ha, by rw [hs, hx], ho⟩
/-- more is reached -/
theorem ReJ.add {es : List GE} {ends : List Nat} {s0 : Nat} {st : Nat → Nat} {Wl : List Nat} {d f j : Nat} {l : List Nat} {cam cal cam' cal' : Nat → Prop} {y : Nat} (h : ReJ es ends s0 st Wl d f j l cam cal) (hu : Us es ends s0 y) (hc : ∀ x, cam' x ↔ cam x ∨ x = y) (hk : ∀ q, cal q → cal' q) (hk' : ∀ q, cal' q → cal q ∨ st q = y) : ReJ es ends s0 st (Wl ++ [y]) d f j l cam' cal' := by
  have hdl := (List.getElem?_eq_some_iff.mp h.at_).1
  refine ⟨⟨List.mem_append_left _ h.re.bs, fun x => ?_, fun x hx => ?_, fun q hq => ?_, fun x hx e he hs ho => ?_⟩, ?_, fun a ha e he => ?_⟩
  · rw [List.mem_append, List.mem_singleton, hc, h.re.cm]
  · rcases List.mem_append.mp hx with hx | hx
    · exact h.re.us x hx
    · rw [List.mem_singleton.mp hx]
      exact hu
  · rcases hk' q hq with hq | hq
    · exact List.mem_append_left _ (h.re.cl q hq)
    · exact List.mem_append_right _ (List.mem_singleton.mpr hq)
  · rw [List.take_append_of_le_length (by omega)] at hx
    obtain ⟨h1, h2⟩ := h.re.dn x hx e he hs ho
    exact ⟨List.mem_append_left _ h1, fun q hq => hk q (h2 q hq)⟩
  · rw [List.getElem?_append_left hdl]
    exact h.at_
  · obtain ⟨h1, h2⟩ := h.go a ha e he
    exact ⟨List.mem_append_left _ h1, fun q hq => hk q (h2 q hq)⟩
theorem ReJ.next {es : List GE} {ends : List Nat} {s0 : Nat} {st : Nat → Nat} {Wl : List Nat} {d f j a : Nat} {l : List Nat} {cam cal : Nat → Prop} {e : GE} (h : ReJ es ends s0 st Wl d f j l cam cal) (hj : l[j]? = some a) (he : es[a]? = some e) (hg : e.g ∈ Wl) (hq : ∀ q, e.q = some q → cal q) : ReJ es ends s0 st Wl d f (j + 1) l cam cal := by
  refine ⟨h.re, h.at_, fun b hb e' he' => ?_⟩
  rw [List.take_succ, hj] at hb
  rcases List.mem_append.mp hb with hb | hb
  · exact h.go b hb e' he'
  · have hb : b = a := List.mem_singleton.mp hb
    subst hb
    obtain rfl := Option.some.inj (he.symm.trans he')
    exact ⟨hg, hq⟩
def kN (x : Nat) : Key := Sum.inl ((x : Nat) : Int)
def Has (kvs : List (Key × V)) (x : Nat) : Prop := (valV kvs (kN x)).isSome = true
theorem has_put {kvs : List (Key × V)} {y : Nat} {v : V} (x : Nat) : Has (putK kvs (kN y) v) x ↔ Has kvs x ∨ x = y := by
  unfold Has
  rw [valV_put]
  by_cases h : x = y
  · subst h
    rw [if_pos rfl]
    simp
  · rw [if_neg (show ¬ kN x = kN y from fun e => h (by have := Sum.inl.inj e; omega))]
    simp [h]
theorem us_lt {W : Web} (o : OkW W) {x : Nat} (h : Us (gesOf W) (endsOf W) 0 x) : x < stN W.ns W.ns.length := by
  cases h with
  | base h => exact sp_lt (pl_0 o)
  | @goal e h hs ho =>
    obtain ⟨a, nt, ed, hl, h1, h2, rfl⟩ := ges_mem.mp h
    exact sp_lt (pl_t o h1 h2)
  | @call e c h hs ho hc =>
    obtain ⟨a, nt, ed, hl, h1, h2, rfl⟩ := ges_mem.mp h
    have hc : (ed.c.map fun c => stN W.ns c.toNat) = some x := hc
    cases hce : ed.c with
    | none => rw [hce] at hc; cases hc
    | some z =>
      rw [hce] at hc
      obtain rfl := Option.some.inj hc
      exact sp_lt (pl_c o h1 h2 hce)
structure ReB (n m : Nat) (Wl gs cs : List Nat) (kvs cvs : List (Key × V)) : Prop where
  gn : gs.Nodup
  gl : ∀ x ∈ gs, x < n ∧ Has kvs x
  cn : cs.Nodup
  cl : ∀ x ∈ cs, x < m ∧ Has cvs x
  wl : Wl.length = 1 + gs.length + cs.length
  kl : kvs.length ≤ Wl.length
  cvl : cvs.length ≤ 1 + cs.length
theorem ReB.le {n m : Nat} {Wl gs cs : List Nat} {kvs cvs : List (Key × V)} (h : ReB n m Wl gs cs kvs cvs) : Wl.length ≤ 1 + n + m := by
  have h1 := nodup_lt h.gn fun x hx => (h.gl x hx).1
  have h2 := nodup_lt h.cn fun x hx => (h.cl x hx).1
  have := h.wl
  omega
theorem snoc_nd {l : List Nat} {y : Nat} (h : l.Nodup) (hy : y ∉ l) : (l ++ [y]).Nodup := by
  rw [List.nodup_append]
  exact ⟨h, by simp, fun x hx z hz => by rw [List.mem_singleton.mp hz]; exact fun e => hy (e ▸ hx)⟩
theorem ReB.goal {n m y : Nat} {Wl gs cs : List Nat} {kvs cvs : List (Key × V)} {v : V} (h : ReB n m Wl gs cs kvs cvs) (hy : y < n) (hn : ¬ Has kvs y) : ReB n m (Wl ++ [y]) (gs ++ [y]) cs (putK kvs (kN y) v) cvs := by
  refine ⟨snoc_nd h.gn fun z => hn (h.gl y z).2, fun x hx => ?_, h.cn, h.cl, ?_, ?_, h.cvl⟩
  · rcases List.mem_append.mp hx with hx | hx
    · exact ⟨(h.gl x hx).1, (has_put x).mpr (.inl (h.gl x hx).2)⟩
    · rw [List.mem_singleton.mp hx]
      exact ⟨hy, (has_put y).mpr (.inr rfl)⟩
  · rw [List.length_append, List.length_append, h.wl]
    show _ + 1 = 1 + (_ + 1) + _
    omega
  · have := putK_le kvs (kN y) v
    have := h.kl
    rw [List.length_append]
    show _ ≤ _ + 1
    omega
theorem ReB.call {n m y c : Nat} {Wl gs cs : List Nat} {kvs cvs : List (Key × V)} {v v' : V} (h : ReB n m Wl gs cs kvs cvs) (hc : c < m) (hn : ¬ Has cvs c) : ReB n m (Wl ++ [y]) gs (cs ++ [c]) (putK kvs (kN y) v) (putK cvs (kN c) v') := by
  refine ⟨h.gn, fun x hx => ⟨(h.gl x hx).1, (has_put x).mpr (.inl (h.gl x hx).2)⟩, snoc_nd h.cn fun z => hn (h.cl c z).2, fun x hx => ?_, ?_, ?_, ?_⟩
  · rcases List.mem_append.mp hx with hx | hx
    · exact ⟨(h.cl x hx).1, (has_put x).mpr (.inl (h.cl x hx).2)⟩
    · rw [List.mem_singleton.mp hx]
      exact ⟨hc, (has_put c).mpr (.inr rfl)⟩
  · rw [List.length_append, List.length_append, h.wl]
    show _ + 1 = 1 + _ + (_ + 1)
    omega
  · have := putK_le kvs (kN y) v
    have := h.kl
    rw [List.length_append]
    show _ ≤ _ + 1
    omega
  · have := putK_le cvs (kN c) v'
    have := h.cvl
    rw [List.length_append]
    show _ ≤ 1 + (_ + 1)
    omega
structure ReH (H H' : Hp) (ll wl ca cr : Addr) (as : List Addr) (ls : List (List Nat)) (Wl : List Nat) (kvs cvs : List (Key × V)) : Prop where
  fr : Fr ca cr H H'
  ll_ : LL H H' ll as ls
  ew : H' wl = some (lN Wl)
  ea : H' ca = some (.dK kvs)
  er : H' cr = some (.dK cvs)
structure ReD (H : Hp) (ll wl ca cr : Addr) (as : List Addr) (k0 c0 : List (Key × V)) : Prop where
  ha : H ca = some (.dK k0)
  hr : H cr = some (.dK c0)
  nl : H ll = none
  na : ∀ a ∈ as, H a = none
  nw : H wl = none
  wl_ : wl ≠ ll
  wa : wl ∉ as
  ac : ca ≠ cr
section
variable {H H' : Hp} {ll wl ca cr : Addr} {as : List Addr} {ls : List (List Nat)} {Wl Wl' : List Nat} {kvs cvs k0 c0 kvs' cvs' : List (Key × V)}
theorem ReH.putW (h : ReH H H' ll wl ca cr as ls Wl kvs cvs) (D : ReD H ll wl ca cr as k0 c0) : ReH H (upd H' wl (lN Wl')) ll wl ca cr as ls Wl' kvs cvs := by
  refine ⟨fun b o e h1 h2 => ?_, h.ll_.keep fun b o hb e => ?_, upd_same, ?_, ?_⟩
  · rw [upd_ne (ne_of_none e D.nw)]
    exact h.fr b o e h1 h2
  · rw [upd_ne (by rintro rfl; rcases hb with hb | hb; exact D.wl_ hb; exact D.wa hb)]
    exact e
  · rw [upd_ne (ne_of_none D.ha D.nw)]
    exact h.ea
  · rw [upd_ne (ne_of_none D.hr D.nw)]
    exact h.er
theorem ReH.putA (h : ReH H H' ll wl ca cr as ls Wl kvs cvs) (D : ReD H ll wl ca cr as k0 c0) : ReH H (upd H' ca (.dK kvs')) ll wl ca cr as ls Wl kvs' cvs := by
  refine ⟨fun b o e h1 h2 => ?_, h.ll_.keep fun b o hb e => ?_, ?_, upd_same, ?_⟩
  · rw [upd_ne h1]
    exact h.fr b o e h1 h2
  · rw [upd_ne]
    · exact e
    · rintro rfl
      rcases hb with rfl | hb
      · exact absurd D.ha (by rw [D.nl]; intro z; cases z)
      · exact absurd D.ha (by rw [D.na _ hb]; intro z; cases z)
  · rw [upd_ne (ne_of_none D.ha D.nw).symm]
    exact h.ew
  · rw [upd_ne D.ac.symm]
    exact h.er
theorem ReH.putR (h : ReH H H' ll wl ca cr as ls Wl kvs cvs) (D : ReD H ll wl ca cr as k0 c0) : ReH H (upd H' cr (.dK cvs')) ll wl ca cr as ls Wl kvs cvs' := by
  refine ⟨fun b o e h1 h2 => ?_, h.ll_.keep fun b o hb e => ?_, ?_, ?_, upd_same⟩
  · rw [upd_ne h2]
    exact h.fr b o e h1 h2
  · rw [upd_ne]
    · exact e
    · rintro rfl
      rcases hb with rfl | hb
      · exact absurd D.hr (by rw [D.nl]; intro z; cases z)
      · exact absurd D.hr (by rw [D.na _ hb]; intro z; cases z)
  · rw [upd_ne (ne_of_none D.hr D.nw).symm]
    exact h.ew
  · rw [upd_ne D.ac]
    exact h.ea
end
theorem upd_none {H : Hp} {p q : Addr} {o : HO} (h : upd H p o q = none) : H q = none := by
  by_cases e : q = p
  · rw [e, upd_same] at h
    cases h
  · rw [upd_ne e] at h
    exact h
theorem Fr.kx2 {CE ca cr : Addr} {H H' : Hp} {k0 c0 : List (Key × V)} (f : Fr ca cr H H') (ha : H ca = some (.dK k0)) (hr : H cr = some (.dK c0)) : Kx CE H H' := by
  refine ⟨fun b xs e => f b _ e ?_ ?_, fun b dx' fs' e => f b _ e ?_ ?_⟩
  · rintro rfl
    rw [ha] at e
    cases e
  · rintro rfl
    rw [hr] at e
    cases e
  · rintro rfl
    rw [ha] at e
    cases e
  · rintro rfl
    rw [hr] at e
    cases e
theorem ges_q {W : Web} : ∀ e ∈ gesOf W, e.c = e.q.map (stN W.ns) := fun e h => by
  obtain ⟨a, nt, ed, hl, h1, h2, rfl⟩ := ges_mem.mp h
  show (ed.c.map fun c => stN W.ns c.toNat) = (ed.c.map Int.toNat).map (stN W.ns)
  cases ed.c <;> rfl
/-- a chart, as far as reach wants it -/
structure ChR (H : Hp) (C CE : Addr) (W : Web) (p dx cl da el sl ca cr : Addr) (ch : List (Option Nat)) (xs : List V) (fs : List (Str × V)) : Prop where
  hp : H p = some (.ins C dx fs)
  f : ChF H fs cl da ch (endsOf W)
  cl_ : ch.length = stN W.ns W.ns.length
  fin : ∀ x, x < stN W.ns W.ns.length → (finB ch (endsOf W) x = true ↔ Fn (gesOf W) (endsOf W) x)
  no : ∀ m, m ∉ cNames → fs.lookup m = none
  sc : fs.lookup ("spot_count" : Str) = some (.int (stN W.ns W.ns.length : Nat))
  ed : fs.lookup ("edges" : Str) = some (.ref el)
  st : fs.lookup ("starts" : Str) = some (.ref sl)
  ca_ : fs.lookup ("came" : Str) = some (.ref ca)
  cr_ : fs.lookup ("callers" : Str) = some (.ref cr)
  he : H el = some (.lst xs)
  hx : EdL CE H W xs (exOf W)
  hs : H sl = some (.lst (stsV W))
theorem ChR.op {H : Hp} {C CE : Addr} {W : Web} {p dx cl da el sl ca cr : Addr} {ch : List (Option Nat)} {xs : List V} {fs : List (Str × V)} (B : ChR H C CE W p dx cl da el sl ca cr ch xs fs) (o : OkW W) {y : Nat × Nat × Ed} (hy : y ∈ exOf W) :
    ((needs (geX W y)).all (finB ch (endsOf W)) = true ↔ Op (gesOf W) (endsOf W) (geX W y)) := by
  rw [List.all_eq_true]
  unfold Op
  constructor
  · intro h x hx
    exact (B.fin x (needs_lt o hy x hx)).mp (h x hx)
  · intro h x hx
    exact (B.fin x (needs_lt o hy x hx)).mpr (h x hx)
def spRe (C CE : Addr) : Sp := fun vs H Q _ => ∃ (p dx cl da el sl ca cr : Addr) (ch : List (Option Nat)) (xs : List V) (fs : List (Str × V)) (W : Web), vs = [.ref p] ∧ ChR H C CE W p dx cl da el sl ca cr ch xs fs ∧ OkW W ∧ H ca = some (.dK []) ∧ H cr = some (.dK []) ∧ ca ≠ cr ∧ ca ≠ da ∧ cr ≠ da ∧ Fn (gesOf W) (endsOf W) 0 ∧
  ∀ (H' : Hp) (kvs cvs : List (Key × V)), Fr ca cr H H' → H' ca = some (.dK kvs) → H' cr = some (.dK cvs) → (∀ x, Has kvs x ↔ Us (gesOf W) (endsOf W) 0 x) → Q .non H'
section
variable {P : Program} {w : World} {K : PySem.W.Frag} {mg : Str → Option Value} {base : Heap}
theorem scRe : FnScope ["self", "leads", "at", "edge", "waiting", "done", "reached", "_"] ["self"] (defScope sRe) := ⟨rfl, rfl, rfl, by decide +kernel, rfl, by decide +kernel, by decide +kernel⟩
theorem ok_re {f C CE fIU fIF fIO fFi fRe : Addr} {fd fdIO : FuncData} (F : Fun K "reach" "Chart.reach" sRe f fd) (T : Bn mg) (CC : ChK K C fIU fIF fIO fFi fRe) (EE : ClA K CE eNames)
    (GIO : FnOk P w K mg base CX0 2 fIO fdIO ["self", "edge"] (spIO C CE)) (bIO : L2.Binds K fdIO ["self", "edge"] []) : FnOk P w K mg base CX0 3 f fd ["self"] (spRe C CE) := by
  refine F.ok scRe (fun vs H Q E h => ?_) (fun cdv A outer s H vs Q E hr h => ?_)
  · obtain ⟨a1, a2, a3, a4, a5, a6, a7, a8, a9, b1, b2, b3, rfl, _⟩ := h
    rfl
  · obtain ⟨p, dx, cl, da, el, sl, ca, cr, ch, xs, fs, W, rfl, B, okw, hca, hcr, hac, had, hrd, hf0, kq⟩ := h
    have na := fun (f : Str) (h : f ∈ cNames) => CC.a.na f h
    have hu := hu_of hr
    have hn := st_le okw
    have hgl := ges_len okw
    have hxl : xs.length = (gesOf W).length := B.hx.1.trans ex_len
    have hn1 := okw.n1
    have hn4 := okw.n4
    refine ⟨_, (pss_cons (ps_setLc (i := 1) (own := [("_", 7)]) (g := gName 7) (tt := tYes) (by rfl) scRe.nd rfl rfl (sw_true rfl rfl rfl (by decide +kernel)) (pi_range1 (by rfl) T.rng (pa_cons (pe_fld (pv 0) rfl) pa_nil)) (blkOk_by (own := [("_", 7)]) (N := ["self", "leads", "at", "edge", "waiting", "done", "reached", "_"]) (sc := defScope sRe) (by decide +kernel)) (fun _ _ _ _ _ => (pg_name (i := 7) scRe.nd rfl (Or.inl rfl))) (fun _ _ _ _ _ => pts_nil) (fun _ _ _ _ _ => (pe_lst pa_nil)))
      (pss_cons (ps_for PassesOwn.never rfl (pi_enum (by rfl) T.enu (pa_cons (pe_fld (pv 0) rfl) pa_nil)) (pg_tup (by rfl) (pgs_cons (pg_name (i := 2) scRe.nd rfl (Or.inl rfl)) (pgs_cons (pg_name (i := 3) scRe.nd rfl (Or.inl rfl)) pgs_nil)))
          (pss_one (ps_if (pt_val (pe_meth (pv 0) CC.a.cl CC.mIO GIO hr bIO .nil pass0 (pa_cons (pv 3) pa_nil))) (pss_one (ps_expr (qApp (pe_ix ix_list (pv 1) (pe_fld (pv 3) rfl) (fun _ _ => rfl)) (pv 2)))) pss_nil)))
      (pss_cons (ps_dput hu (pe_fld (pv 0) rfl) (pe_ix ix_list (pe_fld (pv 0) rfl) pe_int (fun _ _ => rfl)) pe_non rfl)
      (pss_cons (ps_dput hu (pe_fld (pv 0) rfl) pe_int pe_non rfl)
      (pss_cons (ps_set (i := 4) scRe.nd rfl (Or.inl rfl) (pe_lst (pa_cons (pe_ix ix_list (pe_fld (pv 0) rfl) pe_int (fun _ _ => rfl)) pa_nil)))
      (pss_cons (ps_set (i := 5) scRe.nd rfl (Or.inl rfl) pe_int)
      (pss_one (ps_while PassesOwn.never (pt_cmpR op_lt (pv 5) (pe_callB call_len_seq (by rfl) T.len PySem.boot_len (pa_cons (pv 4) pa_nil)) (nomark _))
          (pss_cons (ps_set (i := 6) scRe.nd rfl (Or.inl rfl) (pe_ix ix_list (pv 4) (pv 5) (fun _ _ => rfl)))
          (pss_cons (ps_for PassesOwn.never rfl (pi_list (pe_ix ix_list (pv 1) (pv 6) (fun _ _ => rfl))) (pg_name (i := 2) scRe.nd rfl (Or.inl rfl))
              (pss_cons (ps_set (i := 3) scRe.nd rfl (Or.inl rfl) (pe_ix ix_list (pe_fld (pv 0) rfl) (pv 2) (fun _ _ => rfl)))
              (pss_mid (ps_if (pt_cmp (pc_dnotin hu (pe_fld (pv 3) rfl) (pe_fld (pv 0) rfl))) (pss_cons (ps_dput hu (pe_fld (pv 0) rfl) (pe_fld (pv 3) rfl) (pv 2) rfl)
                  (pss_one (ps_expr (qApp (pv 4) (pe_fld (pv 3) rfl))))) pss_nil)
              (pss_one (ps_if (PW.pt (pw_and (pt_cmpR op_notN (pe_fld (pv 3) rfl) pe_non (nomark _)) (pw_and1 (pt_cmp (pc_dnotin hu (pe_fld (pv 3) rfl) (pe_fld (pv 0) rfl)))))) (pss_cons (ps_dput hu (pe_fld (pv 0) rfl) (pe_fld (pv 3) rfl) (pv 2) rfl)
                  (pss_cons (ps_dput hu (pe_fld (pv 0) rfl) (pe_fld (pv 3) rfl) pe_non rfl)
                  (pss_one (ps_expr (qApp (pv 4) (pe_fld (pv 3) rfl)))))) pss_nil)))))
          (pss_one (ps_aug (i := 5) scRe.nd rfl (Or.inl rfl) pe_int ip_add)))))))))))), ?_⟩
    -- leads
    refine ⟨_, rfl, p, C, dx, fs, _, rfl, B.hp, CC.a.cl, na "spot_count" (by decide +kernel), B.sc, _, rfl, by omega, by omega, fun ll hll => ?_⟩
    rw [Int.toNat_natCast]
    refine lc_it (walk_range (lo := 0) (n := stN W.ns W.ns.length)) (fun i H' => ∃ as, LL H H' ll as (List.replicate i []) ∧ Same H H') ⟨[], ⟨upd_same, hll, by simp, List.nodup_nil, (fun a h => by cases h), rfl, fun x a l h => by cases h⟩, same_new hll⟩ (fun _ _ _ _ => trivial) ?_ ?_
    · rintro i x H2 H2z hi ⟨as, L, s2⟩ ⟨rfl, rfl⟩
      refine ⟨(by rfl), Nat.zero_le _, fun t ht => ⟨as.map V.ref, ?_, ?_, as ++ [t], L.snoc ht (no_of s2 ht), ?_⟩⟩
      · rw [upd_ne (ne_of_none L.w ht)]
        exact L.w
      · rw [List.length_map, L.ln, List.length_replicate, sizeLine_eq]
        omega
      · intro b o eb
        rw [upd_ne (ne_of_none eb hll), upd_ne (ne_of_none (s2 _ _ eb) ht)]
        exact s2 _ _ eb
    rintro H1 ⟨as, L1, s1⟩
    refine ⟨_, rfl, p, C, dx, fs, _, rfl, s1 _ _ B.hp, CC.a.cl, na "edges" (by decide +kernel), B.ed, el, xs, rfl, SqL.of (s1 _ _ B.he), ?_⟩
    refine for_it (walk_enum (K := K) (a := el) (xs := xs)) (fun i σ H' => ∃ (ls : List (List Nat)) (v2 v3 v4 v5 v6 v7 : Option V), σ = [some (.ref p), some (.ref ll), v2, v3, v4, v5, v6, v7] ∧ Same H H' ∧ LL H H' ll as ls ∧ LdF (gesOf W) (endsOf W) (stN W.ns W.ns.length) i ls ∧ (∀ l ∈ ls, l.length ≤ i))
      ⟨List.replicate (stN W.ns W.ns.length) [], _, _, _, _, _, _, rfl, s1, L1, LdF.nil, fun l hl => by rw [(List.mem_replicate.mp hl).2]; exact Nat.zero_le _⟩ (fun i σ H' _ ⟨_, _, _, _, _, _, _, _, s, _⟩ => SqL.of (s _ _ B.he)) ?_ ?_
    · rintro i x σ H3 H3z hi ⟨ls, v2, v3, v4, v5, v6, v7, rfl, s3, L3, ld3, wl3⟩ ⟨T0, x', y, rfl, hT, hH3, hx, hy⟩
      obtain rfl := Option.some.inj hx
      obtain ⟨sT, eT⟩ := freshF hT hH3.symm
      have hil : i < (exOf W).length := by rw [← B.hx.1]; exact hi
      obtain ⟨q, hq, ⟨dq, fq, hq1, hq2⟩⟩ := B.hx.2 i _ (List.getElem?_eq_getElem hil)
      obtain rfl := Option.some.inj (hq.symm.trans hy)
      have hge := ex_ge (List.getElem?_eq_getElem hil)
      generalize hye : (exOf W)[i] = ye at hge hq2
      have hym : ye ∈ exOf W := by rw [← hye]; exact List.getElem_mem hil
      have s3z := s3.trans sT
      have eob : ∀ {H'}, Same H H' → EOb CE H' W q ye.1 ye.2.1 ye.2.2 := fun {H'} s => EOb.kx ⟨dq, fq, hq1, hq2⟩ (Kx.of s)
      refine ⟨T0, _, rfl, SqT.of eT, (by rfl), _, _, rfl, _, _, rfl, rfl, ?_⟩
      refine ⟨_, rfl, p, dx, fs, rfl, s3z _ _ B.hp, B.no "is_open" (by decide +kernel), _, rfl, p, dx, cl, da, q, fs, ch, endsOf W, W, ye.1, ye.2.1, ye.2.2, rfl, s3z _ _ B.hp, ⟨B.f.choice, B.f.ends_at, s3z _ _ B.f.hc, s3z _ _ B.f.hd⟩, B.no, eob s3z, (fun z hz => by rw [B.cl_]; exact needs_lt okw hym z hz), fun H4 s4 => ⟨_, rfl, ?_⟩⟩
      have hop := B.op okw hym
      have s04 := s3z.trans s4
      have L4 := L3.same (sT.trans s4)
      by_cases ho : Op (gesOf W) (endsOf W) (geX W ye)
      rotate_left
      · refine ifF ?_ ⟨ls, _, _, _, _, _, _, rfl, s04, L4, ld3.stay hge ho, fun l hl => by have := wl3 l hl; omega⟩
        cases hb : (needs (geOf W ye.1 ye.2.2)).all (finB ch (endsOf W)) with
        | false => rfl
        | true => exact absurd (hop.mp hb) ho
      refine ifT (hop.mpr ho) ?_
      have hzl := s_lt okw hym
      have hwsz : ls[(geX W ye).s]? = some (ls[(geX W ye).s]'(by rw [ld3.1]; exact hzl)) := List.getElem?_eq_getElem _
      have hasz : as[(geX W ye).s]? = some (as[(geX W ye).s]'(by rw [L4.ln, ld3.1]; exact hzl)) := List.getElem?_eq_getElem _
      generalize ls[(geX W ye).s]'_ = l at hwsz
      generalize as[(geX W ye).s]'_ = a at hasz
      have hel := L4.it _ a l hasz hwsz
      have hll2 := wl3 l (List.mem_of_getElem? hwsz)
      have ham := List.mem_of_getElem? hasz
      obtain ⟨dq', fq', hq1', hq2'⟩ := eob s04
      refine ⟨_, rfl, _, rfl, q, CE, dq', fq', _, rfl, hq1', EE.cl, EE.na "spot" (by decide +kernel), hq2'.spot, ll, _, ((geX W ye).s : Nat), .ref a, rfl, rfl, SqL.of L4.w, atI_nat (by rw [List.getElem?_map, hasz]; rfl), .inl ⟨rfl, _, SqL.of hel⟩, _, rfl, a, _, _, rfl, rfl, hel, ?_, ?_⟩
      · rw [List.length_map, sizeLine_eq]
        omega
      have eL : (HO.lst (l.map (fun n => V.int (n : Nat)) ++ [V.int (i : Nat)])) = lN (l ++ [i]) := by
        unfold lN
        rw [List.map_append]
        rfl
      rw [eL]
      refine ⟨ls.set (geX W ye).s (l ++ [i]), _, _, _, _, _, _, rfl, fun b o eb => ?_, L4.put hasz, ld3.step hge ho hwsz, fun m hm => ?_⟩
      · rw [upd_ne (ne_of_none eb (L4.an a ham))]
        exact s04 _ _ eb
      · rcases List.mem_or_eq_of_mem_set hm with hm | rfl
        · have := wl3 m hm
          omega
        · rw [List.length_append]
          show l.length + 1 ≤ _
          omega
    rintro σ H3 ⟨ls, v2, v3, v4, v5, v6, v7, rfl, s3, L3, ld, wl3⟩
    rw [hxl] at ld
    -- what came first
    have h0 : (stsV W)[0]? = some (.int ((0 : Nat) : Int)) := sts_at (by omega)
    refine ⟨_, rfl, p, C, dx, fs, _, rfl, s3 _ _ B.hp, CC.a.cl, na "came" (by decide +kernel), B.ca_, _, rfl, p, C, dx, fs, _, rfl, s3 _ _ B.hp, CC.a.cl, na "starts" (by decide +kernel), B.st, sl, _, 0, .int ((0 : Nat) : Int), rfl, rfl, SqL.of (s3 _ _ B.hs), atI_nat (j := 0) h0, ca, _, rfl, DPut.k (k := kN 0) (s3 _ _ hca) (by rw [sizeLine_eq]; decide), ?_⟩
    have npa : p ≠ ca := by rintro rfl; exact absurd B.hp (by rw [hca]; intro z; cases z)
    have npr : p ≠ cr := by rintro rfl; exact absurd B.hp (by rw [hcr]; intro z; cases z)
    have nsa : sl ≠ ca := by rintro rfl; exact absurd B.hs (by rw [hca]; intro z; cases z)
    have nsr : sl ≠ cr := by rintro rfl; exact absurd B.hs (by rw [hcr]; intro z; cases z)
    refine ⟨_, rfl, p, C, dx, fs, _, rfl, by rw [upd_ne npa]; exact s3 _ _ B.hp, CC.a.cl, na "callers" (by decide +kernel), B.cr_, cr, _, rfl, DPut.k (k := kN 0) (by rw [upd_ne hac.symm]; exact s3 _ _ hcr) (by rw [sizeLine_eq]; decide), ?_⟩
    refine ⟨_, rfl, p, C, dx, fs, _, rfl, by rw [upd_ne npr, upd_ne npa]; exact s3 _ _ B.hp, CC.a.cl, na "starts" (by decide +kernel), B.st, sl, _, 0, .int ((0 : Nat) : Int), rfl, rfl, SqL.of (by rw [upd_ne nsr, upd_ne nsa]; exact s3 _ _ B.hs), atI_nat (j := 0) h0, (by show 1 ≤ sizeLine; decide), fun wl hwl => ?_⟩
    have hwl3 : H3 wl = none := upd_none (upd_none hwl)
    have hwl0 := no_of s3 hwl3
    obtain ⟨hwll, hwla⟩ := L3.free hwl3
    have D : ReD H ll wl ca cr as [] [] := ⟨hca, hcr, hll, L3.an, hwl0, hwll, hwla, hac⟩
    have nca : ca ≠ wl := ne_of_none hca hwl0
    have ncr : cr ≠ wl := ne_of_none hcr hwl0
    have G0 : ReH H (upd (upd (upd H3 ca (.dK (putK [] (kN 0) .non))) cr (.dK (putK [] (kN 0) .non))) wl (lN [0])) ll wl ca cr as ls [0] (putK [] (kN 0) .non) (putK [] (kN 0) .non) := by
      refine ⟨fun b o e h1 h2 => ?_, L3.keep fun b o hb e => ?_, upd_same, ?_, ?_⟩
      · rw [upd_ne (ne_of_none e hwl0), upd_ne h2, upd_ne h1]
        exact s3 _ _ e
      · have e1 : b ≠ wl := by rintro rfl; rcases hb with hb | hb; exact hwll hb; exact hwla hb
        have e2 : H b = none := by rcases hb with hb | hb; rw [hb]; exact hll; exact L3.an _ hb
        have e3 : b ≠ cr := (ne_of_none hcr e2).symm
        have e4 : b ≠ ca := (ne_of_none hca e2).symm
        rw [upd_ne e1, upd_ne e3, upd_ne e4]
        exact e
      · rw [upd_ne nca, upd_ne hac, upd_same]
      · rw [upd_ne ncr, upd_same]
    have one : ∀ x, Has (putK [] (kN 0) .non) x ↔ x = 0 := fun x => by
      rw [has_put]
      constructor
      · rintro (h | h)
        · cases h
        · exact h
      · exact .inr
    have R0 : ReI (gesOf W) (endsOf W) 0 (stN W.ns) [0] 0 (Has (putK [] (kN 0) .non)) (Has (putK [] (kN 0) .non)) := by
      refine ⟨List.mem_cons_self, fun x => ?_, fun x hx => ?_, fun q hq => ?_, fun x hx => by cases hx⟩
      · rw [one, List.mem_singleton]
      · rw [List.mem_singleton.mp hx]
        exact .base hf0
      · rw [(one q).mp hq]
        exact List.mem_cons_self
    have B0 : ReB (stN W.ns W.ns.length) W.ns.length [0] [] [] (putK [] (kN 0) .non) (putK [] (kN 0) .non) := ⟨List.nodup_nil, (fun x h => by cases h), List.nodup_nil, (fun x h => by cases h), rfl, Nat.le_refl _, Nat.le_refl _⟩
    change (fun H6 => _) (upd (upd (upd H3 ca (.dK (putK [] (kN 0) .non))) cr (.dK (putK [] (kN 0) .non))) wl (lN [0]))
    generalize upd (upd (upd H3 ca _) cr _) wl (lN [0]) = H6 at G0 ⊢
    generalize putK ([] : List (Key × V)) (kN 0) .non = kv0 at G0 R0 B0
    have hel : ∀ {H'}, Fr ca cr H H' → H' el = some (.lst xs) := fun {H'} fr => fr _ _ B.he (by rintro rfl; exact absurd B.he (by rw [hca]; intro z; cases z)) (by rintro rfl; exact absurd B.he (by rw [hcr]; intro z; cases z))
    have hpp : ∀ {H'}, Fr ca cr H H' → H' p = some (.ins C dx fs) := fun {H'} fr => fr _ _ B.hp npa npr
    refine while_m (fun m σ H' => ∃ (Wl gs cs : List Nat) (d : Nat) (kvs cvs : List (Key × V)) (v2 v3 v6 v7 : Option V), σ = [some (.ref p), some (.ref ll), v2, v3, some (.ref wl), some (.int (d : Nat)), v6, v7] ∧ m = 1 + stN W.ns W.ns.length + W.ns.length - d ∧ d ≤ Wl.length ∧ ReH H H' ll wl ca cr as ls Wl kvs cvs ∧ ReI (gesOf W) (endsOf W) 0 (stN W.ns) Wl d (Has kvs) (Has cvs) ∧ ReB (stN W.ns W.ns.length) W.ns.length Wl gs cs kvs cvs) (1 + stN W.ns W.ns.length + W.ns.length)
      ⟨[0], [], [], 0, kv0, kv0, _, _, _, _, rfl, rfl, Nat.zero_le _, G0, R0, B0⟩ ?_
    clear G0 R0 B0 H6
    rintro m σ H5 ⟨Wl, gs, cs, d, kvs, cvs, v2, v3, v6, v7, rfl, hm, hd, G, R, Bd⟩
    refine ⟨_, rfl, _, rfl, wl, _, rfl, .inl (SqL.of G.ew), _, _, rfl, rfl, _, rfl, ?_⟩
    rw [List.length_map]
    by_cases hlt : d < Wl.length
    rotate_left
    · refine ifF (decide_eq_false (by omega)) ?_
      have hdl : d = Wl.length := by omega
      subst hdl
      exact kq H5 kvs cvs G.fr G.ea G.er fun x => R.done ges_q x
    refine ifT (decide_eq_true (by omega)) ?_
    refine ⟨fun σ' H' => ∃ m', m' < m ∧ ∃ (Wl gs cs : List Nat) (d : Nat) (kvs cvs : List (Key × V)) (v2 v3 v6 v7 : Option V), σ' = [some (.ref p), some (.ref ll), v2, v3, some (.ref wl), some (.int (d : Nat)), v6, v7] ∧ m' = 1 + stN W.ns W.ns.length + W.ns.length - d ∧ d ≤ Wl.length ∧ ReH H H' ll wl ca cr as ls Wl kvs cvs ∧ ReI (gesOf W) (endsOf W) 0 (stN W.ns) Wl d (Has kvs) (Has cvs) ∧ ReB (stN W.ns W.ns.length) W.ns.length Wl gs cs kvs cvs, fun σ' H' z => z, ?_⟩
    have hof : Wl[d]? = some (Wl[d]'hlt) := List.getElem?_eq_getElem hlt
    generalize Wl[d]'hlt = fi at hof
    have hfin := us_lt okw (R.us fi (List.mem_of_getElem? hof))
    have hus := R.us fi (List.mem_of_getElem? hof)
    have hWl := Bd.le
    refine ⟨_, rfl, _, rfl, wl, _, (d : Nat), .int (fi : Nat), rfl, rfl, SqL.of G.ew, atI_nat (by rw [List.getElem?_map, hof]; rfl), ?_⟩
    have hwf : ls[fi]? = some (ls[fi]'(by rw [ld.1]; exact hfin)) := List.getElem?_eq_getElem _
    have haf : as[fi]? = some (as[fi]'(by rw [L3.ln, ld.1]; exact hfin)) := List.getElem?_eq_getElem _
    generalize ls[fi]'_ = w5 at hwf
    generalize as[fi]'_ = a5 at haf
    have ha5 := fun {H'} (h : LL H H' ll as ls) => h.it fi a5 w5 haf hwf
    refine ⟨_, rfl, _, rfl, ll, _, (fi : Nat), .ref a5, rfl, rfl, SqL.of G.ll_.w, atI_nat (by rw [List.getElem?_map, haf]; rfl), a5, rfl, ⟨_, SqL.of (ha5 G.ll_)⟩, ?_⟩
    refine for_it (walk_list (K := K) (a := a5) (xs := w5.map fun n => V.int (n : Nat))) (fun j σ H' => ∃ (Wl gs cs : List Nat) (kvs cvs : List (Key × V)) (v2 v3 : Option V), σ = [some (.ref p), some (.ref ll), v2, v3, some (.ref wl), some (.int (d : Nat)), some (.int (fi : Nat)), v7] ∧ ReH H H' ll wl ca cr as ls Wl kvs cvs ∧ ReJ (gesOf W) (endsOf W) 0 (stN W.ns) Wl d fi j w5 (Has kvs) (Has cvs) ∧ ReB (stN W.ns W.ns.length) W.ns.length Wl gs cs kvs cvs)
      ⟨Wl, gs, cs, kvs, cvs, _, _, rfl, G, ReJ.begin R hof, Bd⟩ (fun j σ H' _ ⟨_, _, _, _, _, _, _, _, h, _⟩ => SqL.of (ha5 h.ll_)) ?_ ?_
    rotate_left
    · rintro σ H' ⟨Wl', gs, cs, kvs, cvs, v2, v3, rfl, G', J', B'⟩
      rw [List.length_map] at J'
      have hdl := (List.getElem?_eq_some_iff.mp J'.at_).1
      have := B'.le
      refine ⟨_, rfl, _, _, rfl, rfl, 1 + stN W.ns W.ns.length + W.ns.length - (d + 1), by omega, Wl', gs, cs, d + 1, kvs, cvs, _, _, _, _, rfl, rfl, hdl, G', J'.end_ ld hwf, B'⟩
    clear G R Bd kvs cvs v2 v3 gs cs hlt hof hWl hd Wl
    rintro j x σ H6 H6z hj ⟨Wl, gs, cs, kvs, cvs, v2, v3, rfl, G, J, Bd⟩ ⟨rfl, hx⟩
    rw [List.length_map] at hj
    rw [List.getElem?_map] at hx
    cases hwj : w5[j]? with
    | none => rw [hwj] at hx; cases hx
    | some a =>
    rw [hwj] at hx
    obtain rfl := Option.some.inj hx
    obtain ⟨hal, e0, he0, hes, heo⟩ := (ld.2 fi w5 hwf a).mp (List.mem_of_getElem? hwj)
    have hax : a < (exOf W).length := by rw [ex_len]; exact hal
    obtain ⟨q, hq, ⟨dq, fq, hq1, hq2⟩⟩ := B.hx.2 a _ (List.getElem?_eq_getElem hax)
    have hge := ex_ge (List.getElem?_eq_getElem hax)
    generalize hye : (exOf W)[a] = ye at hge hq2
    have hym : ye ∈ exOf W := by rw [← hye]; exact List.getElem_mem hax
    obtain rfl := Option.some.inj (he0.symm.trans hge)
    have hem : geX W ye ∈ gesOf W := List.mem_of_getElem? hge
    have hqq : ∀ {H'}, Fr ca cr H H' → H' q = some (.ins CE dq fq) := fun {H'} fr => (fr.kx2 hca hcr).ins _ _ _ hq1
    have nap := fun (f : Str) (h : f ∈ eNames) => EE.na f h
    have hgn : (geX W ye).g < stN W.ns W.ns.length := needs_lt okw hym _ List.mem_cons_self
    refine ⟨_, rfl, p, C, dx, fs, _, rfl, hpp G.fr, CC.a.cl, na "edges" (by decide +kernel), B.ed, _, rfl, el, xs, (a : Nat), .ref q, rfl, rfl, SqL.of (hel G.fr), atI_nat hq, ?_⟩
    refine ⟨fun σ H' => ∃ (Wl gs cs : List Nat) (kvs cvs : List (Key × V)), σ = [some (.ref p), some (.ref ll), some (.int (a : Nat)), some (.ref q), some (.ref wl), some (.int (d : Nat)), some (.int (fi : Nat)), v7] ∧ ReH H H' ll wl ca cr as ls Wl kvs cvs ∧ ReJ (gesOf W) (endsOf W) 0 (stN W.ns) Wl d fi j w5 (Has kvs) (Has cvs) ∧ ReB (stN W.ns W.ns.length) W.ns.length Wl gs cs kvs cvs ∧ (geX W ye).g ∈ Wl, ?_, ?_⟩
    · refine ⟨_, rfl, q, CE, dq, fq, _, rfl, hqq G.fr, EE.cl, nap "goal" (by decide +kernel), hq2.goal, _, rfl, p, C, dx, fs, _, rfl, hpp G.fr, CC.a.cl, na "came" (by decide +kernel), B.ca_, ca, _, rfl, DGet.k (k := kN (geX W ye).g) G.ea, _, rfl, ?_⟩
      cases hb : (valV kvs (kN (geX W ye).g)).isSome with
      | true => exact ifF rfl ⟨Wl, gs, cs, kvs, cvs, rfl, G, J, Bd, (J.re.cm _).mpr hb⟩
      | false =>
        have hnb : ¬ Has kvs (geX W ye).g := by
          unfold Has
          rw [hb]
          intro z
          cases z
        have hle := Bd.le
        have hkl := Bd.kl
        refine ifT rfl ⟨_, rfl, _, rfl, p, C, dx, fs, _, rfl, hpp G.fr, CC.a.cl, na "came" (by decide +kernel), B.ca_, _, rfl, q, CE, dq, fq, _, rfl, hqq G.fr, EE.cl, nap "goal" (by decide +kernel), hq2.goal, ca, _, rfl, DPut.k (k := kN (geX W ye).g) G.ea (by rw [sizeLine_eq]; omega), ?_⟩
        have G1 := G.putA (kvs' := putK kvs (kN (geX W ye).g) (.int (a : Nat))) D
        have B1 := Bd.goal (v := .int (a : Nat)) hgn hnb
        have J1 := J.add (y := (geX W ye).g) (cam' := Has (putK kvs (kN (geX W ye).g) (.int (a : Nat)))) (.goal hem (by rw [hes]; exact hus) heo) has_put (fun q h => h) (fun q h => .inl h)
        change (fun H7 => _) (upd H6z ca (.dK (putK kvs (kN (geX W ye).g) (.int (a : Nat)))))
        generalize upd H6z ca _ = H7 at G1 ⊢
        refine ⟨_, rfl, .inl ⟨rfl, _, SqL.of G1.ew⟩, _, rfl, q, CE, dq, fq, _, rfl, hqq G1.fr, EE.cl, nap "goal" (by decide +kernel), hq2.goal, wl, _, _, rfl, rfl, G1.ew, ?_, ?_⟩
        · rw [List.length_map, sizeLine_eq]
          omega
        have eL : (HO.lst (Wl.map (fun n => V.int (n : Nat)) ++ [V.int (spN W ye.1 ye.2.2.t : Nat)])) = lN (Wl ++ [(geX W ye).g]) := by
          unfold lN
          rw [List.map_append]
          rfl
        rw [eL]
        exact ⟨_, _, _, _, _, rfl, G1.putW D, J1, B1, List.mem_append_right _ (List.mem_singleton.mpr rfl)⟩
    clear G J Bd kvs cvs gs cs Wl
    rintro σ H7 ⟨Wl, gs, cs, kvs, cvs, rfl, G, J, Bd, hgm⟩
    have hle := Bd.le
    have hkl := Bd.kl
    have hcl := Bd.cvl
    have hwl := Bd.wl
    refine ⟨_, rfl, q, CE, dq, fq, _, rfl, hqq G.fr, EE.cl, nap "called" (by decide +kernel), hq2.called, rfl, _, rfl, ?_⟩
    cases hce : ye.2.2.c with
    | none =>
      refine ifF rfl (ifF rfl ⟨Wl, gs, cs, kvs, cvs, _, _, rfl, G, J.next hwj hge hgm fun c hc => ?_, Bd⟩)
      have hc : ye.2.2.c.map Int.toNat = some c := hc
      rw [hce] at hc
      cases hc
    | some c =>
    obtain ⟨nt, hnt, hed, hyl⟩ := geX_mem hym
    have hoe := (okw.ed nt (List.mem_of_getElem? hnt) _ hed).c c hce
    obtain ⟨cn, rfl⟩ := Int.eq_ofNat_of_zero_le hoe.1
    have hcn : cn < W.ns.length := by omega
    have hqc : (geX W ye).q = some cn := by
      show ye.2.2.c.map Int.toNat = some cn
      rw [hce] <;> rfl
    have hcc : (geX W ye).c = some (stN W.ns cn) := by
      show (ye.2.2.c.map fun c => stN W.ns c.toNat) = _
      rw [hce] <;> rfl
    have hst := hq2.start
    have hca2 := hq2.called
    rw [hce] at hst hca2
    refine ifT rfl ⟨_, rfl, q, CE, dq, fq, _, rfl, hqq G.fr, EE.cl, nap "called" (by decide +kernel), hca2, _, rfl, p, C, dx, fs, _, rfl, hpp G.fr, CC.a.cl, na "callers" (by decide +kernel), B.cr_, cr, _, rfl, DGet.k (k := kN cn) G.er, _, rfl, ?_⟩
    cases hb : (valV cvs (kN cn)).isSome with
    | true =>
      refine ifF rfl ⟨Wl, gs, cs, kvs, cvs, _, _, rfl, G, J.next hwj hge hgm fun c' hc' => ?_, Bd⟩
      obtain rfl := Option.some.inj (hqc.symm.trans hc')
      exact hb
    | false =>
    have hnb : ¬ Has cvs cn := by
      unfold Has
      rw [hb]
      intro z
      cases z
    refine ifT rfl ⟨_, rfl, _, rfl, p, C, dx, fs, _, rfl, hpp G.fr, CC.a.cl, na "callers" (by decide +kernel), B.cr_, _, rfl, q, CE, dq, fq, _, rfl, hqq G.fr, EE.cl, nap "called" (by decide +kernel), hca2, cr, _, rfl, DPut.k (k := kN cn) G.er (by rw [sizeLine_eq]; omega), ?_⟩
    have G1 := G.putR (cvs' := putK cvs (kN cn) (.int (a : Nat))) D
    change (fun H8 => _) (upd H7 cr (.dK (putK cvs (kN cn) (.int (a : Nat)))))
    generalize upd H7 cr _ = H8 at G1 ⊢
    refine ⟨_, rfl, p, C, dx, fs, _, rfl, hpp G1.fr, CC.a.cl, na "came" (by decide +kernel), B.ca_, _, rfl, q, CE, dq, fq, _, rfl, hqq G1.fr, EE.cl, nap "start" (by decide +kernel), hst, ca, _, rfl, DPut.k (k := kN (stN W.ns cn)) G1.ea (by rw [sizeLine_eq]; omega), ?_⟩
    have G2 := G1.putA (kvs' := putK kvs (kN (stN W.ns cn)) .non) D
    change (fun H9 => _) (upd H8 ca (.dK (putK kvs (kN (stN W.ns cn)) .non)))
    generalize upd H8 ca _ = H9 at G2 ⊢
    refine ⟨_, rfl, .inl ⟨rfl, _, SqL.of G2.ew⟩, _, rfl, q, CE, dq, fq, _, rfl, hqq G2.fr, EE.cl, nap "start" (by decide +kernel), hst, wl, _, _, rfl, rfl, G2.ew, ?_, ?_⟩
    · rw [List.length_map, sizeLine_eq]
      omega
    have eL : (HO.lst (Wl.map (fun n => V.int (n : Nat)) ++ [V.int (stN W.ns cn : Nat)])) = lN (Wl ++ [stN W.ns cn]) := by
      unfold lN
      rw [List.map_append]
      rfl
    have B1 := Bd.call (y := stN W.ns cn) (v := .non) (v' := .int (a : Nat)) hcn hnb
    have J1 := J.add (y := stN W.ns cn) (cam' := Has (putK kvs (kN (stN W.ns cn)) .non)) (cal' := Has (putK cvs (kN cn) (.int (a : Nat)))) (.call hem (by rw [hes]; exact hus) heo hcc) has_put (fun q h => (has_put q).mpr (.inl h)) (fun q h => by
      rcases (has_put q).mp h with h | rfl
      · exact .inl h
      · exact .inr rfl)
    have G3 := G2.putW (Wl' := Wl ++ [stN W.ns cn]) D
    rw [← eL] at G3
    refine ⟨_, _, _, _, _, _, _, rfl, G3, J1.next hwj hge (List.mem_append_left _ hgm) fun c' hc' => ?_, B1⟩
    obtain rfl := Option.some.inj (hqc.symm.trans hc')
    exact (has_put cn).mpr (.inr rfl)
end
end K67

set_option Elab.async false
set_option linter.all false
set_option pp.maxSteps 900
set_option maxRecDepth 100000
set_option maxHeartbeats 4000000
namespace K67
open PySem PySem.Spec PyProof.Rows L2
open TL (tl)
section
variable {X : Cx} {o e : Expr} {te to : TE} {apos cpos : Pos}
theorem qExt (ho : PE X o to) (he : PE X e te) (hbase : attributeBase o "extend" X.env (eval o X.env) = eval o X.env := by rfl)
    (hfew : ((backTo cpos (starEach (e :: []) X.env)).all (fun x => !x.1) && (backToKw cpos (keywordEach [] X.env)).all (fun x => x.1.isSome)
      && decide ((e :: ([] : List Expr)).length + ([] : List Keyword).length + (if ([] : List Keyword).isEmpty then 0 else 1) < 30)) = true := by rfl)
    (hline : (apos.endLine == cpos.line) = true := by rfl) (hs : starEach (e :: []) X.env = (false, eval e X.env) :: starEach [] X.env := by rfl) (hplain : (backTo cpos (starEach [] X.env)).any (·.1) = false := by rfl) :
    PE X (.Call (.Attribute o "extend" apos) [e] [] cpos) (tBM X.K "list" rExtend to (tCons te tNil)) :=
  pe_bm PySem.F.plainAttrs_list PySem.F.slot_list_extend PySem.F.type_list_extend mt_extend ho (pa_cons he pa_nil hs) hbase hfew hline hs hplain
end
theorem dc_it {J : It} {n : Nat} {G : Hp → Prop} {Y : Nat → Hp → V → Hp → Prop} (w : Walk J n G Y) {g : TG} {tt : TT} {tk tv : TE} {vs : List Nat} {σ : L2.St} {H1 : Hp} {D : Addr} {Qd : Hp → Prop} (Pv : Nat → Hp → Prop) (h0 : Pv 0 (upd H1 D (.dK []))) (hG : ∀ i H, i ≤ n → Pv i H → G H)
    (hs : ∀ i x H H', i < n → Pv i H → Y i H x H' → g x (wipe σ vs) H' fun σ2 H2 => wipe σ2 vs = wipe σ vs ∧ tt σ2 H2 fun b H3 =>
      if b = true then tk σ2 H3 fun y H4 => tv σ2 H4 fun z H5 => ∃ kvs k, y = kV k ∧ H5 D = some (.dK kvs) ∧ kvs.length < sizeLine ∧ Pv (i + 1) (upd H5 D (.dK (putK kvs k z))) else Pv (i + 1) H3) (hd : ∀ H, Pv n H → Qd H) :
    ∃ W : Nat → Nat → Hp → Prop, (∃ m, W 0 m (upd H1 D (.dK []))) ∧ ∀ i m H, W i m H →
      (J.stop i H ∧ Qd H) ∨ (J.go i H ∧ ∃ Nx : Hp → Prop, (∀ H', Nx H' → ∃ m', m' < m ∧ W (i + 1) m' H') ∧ ∀ x H', J.yld i H x H' → g x (wipe σ vs) H' fun σ2 H2 => wipe σ2 vs = wipe σ vs ∧ tt σ2 H2 fun b H3 =>
        if b = true then tk σ2 H3 fun y H4 => tv σ2 H4 fun z H5 => ∃ kvs k, y = kV k ∧ H5 D = some (.dK kvs) ∧ kvs.length < sizeLine ∧ Nx (upd H5 D (.dK (putK kvs k z))) else Nx H3) := by
  refine ⟨fun i m H => m = n - i ∧ i ≤ n ∧ Pv i H, ⟨n, by simp, Nat.zero_le _, h0⟩, ?_⟩
  rintro i m H ⟨rfl, hi, p⟩
  have q := hG i H hi p
  by_cases hlt : i < n
  · refine .inr ⟨w.goes i H hlt q, Pv (i + 1), fun H' p' => ⟨n - (i + 1), by omega, rfl, hlt, p'⟩, fun x H' y => hs i x H H' hlt p (w.yields i H x H' hlt q y)⟩
  · have e : i = n := by omega
    subst e
    exact .inl ⟨w.stops H q, hd H p⟩
/-- all but p stays -/
def Fp (p : Addr) (H H' : Hp) : Prop := ∀ b o, H b = some o → b ≠ p → H' b = some o
theorem Fp.same {p : Addr} {H H' H'' : Hp} (f : Fp p H H') (s : Same H' H'') : Fp p H H'' := fun b o e n => s _ _ (f b o e n)
theorem Fp.set {p : Addr} {H H' : Hp} {o : HO} (f : Fp p H H') : Fp p H (upd H' p o) := fun b u e n => by
  rw [upd_ne n]
  exact f b u e n
theorem Fp.of {p : Addr} {H H' : Hp} (s : Same H H') : Fp p H H' := fun b o e _ => s b o e
theorem Fp.trans {p : Addr} {H H' H'' : Hp} (f : Fp p H H') (g : Fp p H' H'') : Fp p H H'' := fun b o e n => g _ _ (f _ _ e n) n
theorem Fp.kt {p C dx : Addr} {H H' : Hp} {fs : List (Str × V)} (f : Fp p H H') (hp : H p = some (.ins C dx fs)) : Kt H H' := fun b xs e => f b _ e (by rintro rfl; rw [hp] at e; cases e)
theorem Fp.no {p a : Addr} {H H' : Hp} {o : HO} (f : Fp p H H') (hp : H' p = some o) (h : H' a = none) : H a = none := by
  cases e : H a with
  | none => rfl
  | some u =>
    have n : a ≠ p := by
      rintro rfl
      rw [h] at hp
      cases hp
    rw [f _ _ e n] at h
    cases h
theorem exUp_succ (W : Web) (i : Nat) : exUp W (i + 1) = exUp W i ++ (edsN W i).zipIdx.map fun y => (i, y.2, y.1) := by
  unfold exUp
  rw [List.range_succ, List.map_append, List.flatten_append]
  simp
theorem exUp_le (W : Web) {i n : Nat} (h : i ≤ n) : (exUp W i).length ≤ (exUp W n).length := by
  induction h with
  | refl => exact Nat.le_refl _
  | @step m _ ih =>
    rw [exUp_succ, List.length_append]
    omega
theorem EdL.app {C : Addr} {H : Hp} {W : Web} {xs ys : List V} {i : Nat} (h : EdL C H W xs (exUp W i)) (hl : ys.length = (edsN W i).length) (hy : ∀ (k : Nat) (e : Ed), (edsN W i)[k]? = some e → ∃ q : Addr, ys[k]? = some (.ref q) ∧ EOb C H W q i k e) : EdL C H W (xs ++ ys) (exUp W (i + 1)) := by
  rw [exUp_succ]
  refine ⟨by rw [List.length_append, List.length_append, h.1, hl, List.length_map, List.length_zipIdx], fun t y ht => ?_⟩
  by_cases hlt : t < (exUp W i).length
  · rw [List.getElem?_append_left hlt] at ht
    obtain ⟨q, h1, h2⟩ := h.2 t y ht
    exact ⟨q, by rw [List.getElem?_append_left (by rw [h.1]; exact hlt)]; exact h1, h2⟩
  · rw [List.getElem?_append_right (by omega), List.getElem?_map, List.getElem?_zipIdx] at ht
    cases he : (edsN W i)[t - (exUp W i).length]? with
    | none => rw [he] at ht; cases ht
    | some e =>
      rw [he] at ht
      obtain rfl := Option.some.inj ht
      obtain ⟨q, h1, h2⟩ := hy _ e he
      refine ⟨q, by rw [List.getElem?_append_right (by rw [h.1]; omega), h.1]; exact h1, ?_⟩
      show EOb C H W q i (0 + (t - (exUp W i).length)) e
      rw [Nat.zero_add]
      exact h2
theorem stage {H : Hp} {p D C dx : Addr} {o : HO} {fs fs' : List (Str × V)} (hD : H D = none) (hp : H p = some (.ins C dx fs)) : Fp p H (upd (upd H D o) p (.ins C dx fs')) ∧ (upd (upd H D o) p (.ins C dx fs')) D = some o ∧ (upd (upd H D o) p (.ins C dx fs')) p = some (.ins C dx fs') :=
  ⟨(Fp.of (same_new hD)).set, by rw [upd_ne (ne_of_none hp hD).symm, upd_same], upd_same⟩
theorem Fp.kx {p C CE dx : Addr} {H H' : Hp} {fs : List (Str × V)} (f : Fp p H H') (hp : H p = some (.ins C dx fs)) (n : C ≠ CE) : Kx CE H H' := ⟨f.kt hp, fun b dx' fs' e => f b _ e (by rintro rfl; rw [hp] at e; injection e with e; injection e with e; exact n e)⟩
theorem us_fn {es : List GE} {ends : List Nat} {s0 x : Nat} (h : Us es ends s0 x) : Fn es ends s0 := by
  induction h with
  | base h => exact h
  | goal _ _ _ ih => exact ih
  | call _ _ _ _ ih => exact ih
theorem finB_iff {n : Nat} {es : List GE} {ends O : List Nat} {ch : List (Option Nat)} (I : FinI n es ends O ch) (x : Nat) : finB ch ends x = true ↔ x ∈ O := by
  rw [← I.fin]
  unfold finB
  rw [Bool.or_eq_true, decide_eq_true_iff]
  refine or_congr ?_ Iff.rfl
  cases ch[x]? with
  | none => simp
  | some c => cases c <;> simp
theorem ends_put {l : List Nat} {x : Nat} (h : x ∉ l) : putK (endsKv l) (kN x) (.bl true) = endsKv (l ++ [x]) := by
  have h1 := ends_val (l := l) (x := x)
  rw [decide_eq_false h] at h1
  have h2 : valV (endsKv l) (kN x) = none := by
    cases e : valV (endsKv l) (kN x) with
    | none => rfl
    | some v =>
      have e : valV (endsKv l) (Sum.inl ((x : Nat) : Int)) = some v := e
      rw [e] at h1
      cases h1
  rw [putK_new _ h2]
  unfold endsKv
  rw [List.map_append]
  rfl
theorem fs_no {fs : List (Str × V)} {f m : Str} {v : V} (h : fs.lookup m = none) (hf : f ∈ cNames) (hm : m ∉ cNames) : (putF f v fs).lookup m = none := by
  rw [lookup_putF, if_neg (by rintro rfl; exact hm hf)]
  exact h
def fsA (lb : Int) (sl dl : Addr) : List (Str × V) := putF "ends" (.ref dl) (putF "starts" (.ref sl) (putF "label_count" (.int lb) []))
def fsB (lb : Int) (sl dl el : Addr) (n : Nat) : List (Str × V) := putF "edges" (.ref el) (putF "spot_count" (.int (n : Nat)) (fsA lb sl dl))
def fsC (lb : Int) (sl dl el da cl ol : Addr) (n : Nat) : List (Str × V) := putF "order" (.ref ol) (putF "choice" (.ref cl) (putF "ends_at" (.ref da) (fsB lb sl dl el n)))
def fsD (lb : Int) (sl dl el da cl o0 ol ca cr : Addr) (n : Nat) : List (Str × V) := putF "callers" (.ref cr) (putF "came" (.ref ca) (putF "order" (.ref ol) (fsC lb sl dl el da cl o0 n)))
/-- a whole chart -/
structure ChO (H : Hp) (C CE : Addr) (W : Web) (p dx cl da el sl dl ol ca cr ul : Addr) (ch : List (Option Nat)) (O us : List Nat) (xs : List V) (kvs cvs : List (Key × V)) (fs : List (Str × V)) : Prop where
  r : ChR H C CE W p dx cl da el sl ca cr ch xs fs
  lb : fs.lookup ("label_count" : Str) = some (.int W.lb)
  od : fs.lookup ("order" : Str) = some (.ref ol)
  en : fs.lookup ("ends" : Str) = some (.ref dl)
  ud : fs.lookup ("used" : Str) = some (.ref ul)
  ho : H ol = some (lN O)
  hd : H dl = some (lN (endsOf W))
  ha : H ca = some (.dK kvs)
  hr : H cr = some (.dK cvs)
  hu : H ul = some (lN us)
  fi : FinI (stN W.ns W.ns.length) (gesOf W) (endsOf W) O ch
  fd : ∀ x, x ∈ O ↔ Fn (gesOf W) (endsOf W) x
  re : ∀ x, Has kvs x ↔ Us (gesOf W) (endsOf W) 0 x
  um : ∀ a, a ∈ us ↔ ∃ e, (gesOf W)[a]? = some e ∧ Us (gesOf W) (endsOf W) 0 e.s ∧ Op (gesOf W) (endsOf W) e
  up : us.Pairwise (· < ·)
def spCI (C CE : Addr) : Sp := fun vs H Q _ => ∃ (g p dx : Addr) (vw : V) (W : Web), vs = [.ref p, vw] ∧ H p = some (.ins C dx []) ∧ DV g H vw (wbD W) ∧ OkW W ∧ C ≠ CE ∧
  ∀ (H' : Hp) (cl da el sl dl ol ca cr ul : Addr) (ch : List (Option Nat)) (O us : List Nat) (xs : List V) (kvs cvs : List (Key × V)) (fs : List (Str × V)), Fp p H H' → ChO H' C CE W p dx cl da el sl dl ol ca cr ul ch O us xs kvs cvs fs → Q .non H'
section
variable {P : Program} {w : World} {K : PySem.W.Frag} {mg : Str → Option Value} {base : Heap}
theorem scCi : FnScope ["self", "web", "spots", "places", "_", "net", "told", "at", "edge", "spot"] ["self", "web"] (defScope sCI) := ⟨rfl, rfl, rfl, by decide +kernel, rfl, by decide +kernel, by decide +kernel⟩
theorem ok_ci {f C CE fIU fIF fIO fFi fRe fEI : Addr} {fd fdIF fdIO fdFi fdRe fdEI : FuncData} (F : Fun K "__init__" "Chart.__init__" sCI f fd) (T : Bn mg) (CC : ChK K C fIU fIF fIO fFi fRe) (EE : ClA K CE eNames) (mEd : mg "Edge" = some (.ref CE)) (ME : Mk K CE fEI)
    (GIO : FnOk P w K mg base CX0 2 fIO fdIO ["self", "edge"] (spIO C CE)) (bIO : L2.Binds K fdIO ["self", "edge"] []) (GIF : FnOk P w K mg base CX0 1 fIF fdIF ["self", "spot"] (spIF C)) (bIF : L2.Binds K fdIF ["self", "spot"] [])
    (GFi : FnOk P w K mg base CX0 2 fFi fdFi ["self"] (spFi C CE)) (bFi : L2.Binds K fdFi ["self"] []) (GRe : FnOk P w K mg base CX0 3 fRe fdRe ["self"] (spRe C CE)) (bRe : L2.Binds K fdRe ["self"] [])
    (GEI : FnOk P w K mg base CX0 1 fEI fdEI ["self", "net", "at", "told", "starts"] (spEI CE)) (bEI : L2.Binds K fdEI ["self", "net", "at", "told", "starts"] []) : FnOk P w K mg base CX0 4 f fd ["self", "web"] (spCI C CE) := by
  refine F.ok scCi (fun vs H Q E h => ?_) (fun cdv A outer s H vs Q E hr h => ?_)
  · obtain ⟨a1, a2, a3, a4, a5, rfl, _⟩ := h
    rfl
  · obtain ⟨g, p, dx, vw, W, rfl, hp, hw, okw, hCE, kq⟩ := h
    have na := fun (f : Str) (h : f ∈ cNames) => CC.a.na f h
    have hu := hu_of hr
    have hr2 := hr.mono (show 2 ≤ 3 by decide)
    have hr1 := hr.mono (show 1 ≤ 3 by decide)
    have hn := st_le okw
    have hgl := ges_len okw
    have hn1 := okw.n1
    have hn4 := okw.n4
    refine ⟨_, (pss_cons (ps_fld (pv 0) (pe_ix ix_tup (pv 1) pe_int (fun _ _ => rfl)) rfl)
      (pss_cons (ps_fld (pv 0) (pe_lst pa_nil) rfl)
      (pss_cons (ps_fld (pv 0) (pe_lst pa_nil) rfl)
      (pss_cons (ps_set (i := 2) scCi.nd rfl (Or.inl rfl) pe_int)
      (pss_cons (ps_for PassesOwn.never rfl (pi_tup (pe_ix ix_tup (pv 1) pe_int (fun _ _ => rfl))) (pg_tup (by rfl) (pgs_cons (pg_name (i := 3) scCi.nd rfl (Or.inl rfl)) (pgs_cons (pg_name (i := 4) scCi.nd rfl (Or.inl rfl)) pgs_nil)))
          (pss_cons (ps_expr (qApp (pe_fld (pv 0) rfl) (pv 2)))
          (pss_cons (ps_aug (i := 2) scCi.nd rfl (Or.inl rfl) (pv 3) ip_add)
          (pss_one (ps_expr (qApp (pe_fld (pv 0) rfl) (pe_op op_sub (pv 2) pe_int)))))))
      (pss_cons (ps_fld (pv 0) (pv 2) rfl)
      (pss_cons (ps_fld (pv 0) (pe_lst pa_nil) rfl)
      (pss_cons (ps_for PassesOwn.never rfl (pi_enumT (by rfl) T.enu (pa_cons (pe_ix ix_tup (pv 1) pe_int (fun _ _ => rfl)) pa_nil)) (pg_tup (by rfl) (pgs_cons (pg_name (i := 5) scCi.nd rfl (Or.inr rfl)) (pgs_cons (pg_tup (by rfl) (pgs_cons (pg_name (i := 4) scCi.nd rfl (Or.inl rfl)) (pgs_cons (pg_name (i := 6) scCi.nd rfl (Or.inl rfl)) pgs_nil))) pgs_nil)))
          (pss_one (ps_expr (qExt (pe_fld (pv 0) rfl) (pe_lc (own := [("at", 7), ("edge", 8)]) (g := gTup K 2 (gCons (gName 7) (gCons (gName 8) gNil))) (tt := tYes) (by rfl) scCi.nd (pi_enumT (by rfl) T.enu (pa_cons (pv 6) pa_nil)) (blkOk_by (own := [("at", 7), ("edge", 8)]) (N := ["self", "web", "spots", "places", "_", "net", "told", "at", "edge", "spot"]) (sc := defScope sCI) (by decide +kernel)) (fun _ _ _ _ _ => (pg_tup (by rfl) (pgs_cons (pg_name (i := 7) scCi.nd rfl (Or.inl rfl)) (pgs_cons (pg_name (i := 8) scCi.nd rfl (Or.inl rfl)) pgs_nil)))) (fun _ _ _ _ _ => pts_nil) (fun _ _ _ _ _ => (pe_make ME GEI hr2 (by rfl) mEd bEI .nil pass0 (pa_cons (pv 5) (pa_cons (pv 7) (pa_cons (pv 8) (pa_cons (show PE _ _ (tFld K _ _) from pe_fld (pv 0) rfl) pa_nil)))))))))))
      (pss_cons (ps_fld (pv 0) (pe_dc (own := [("spot", 9)]) (g := gName 9) (tt := tYes) (by rfl) scCi.nd (pi_list (pe_fld (pv 0) rfl)) (blkOk_by (own := [("spot", 9)]) (N := ["self", "web", "spots", "places", "_", "net", "told", "at", "edge", "spot"]) (sc := defScope sCI) (by decide +kernel)) (fun _ _ _ _ _ => (pg_name (i := 9) scCi.nd rfl (Or.inl rfl))) (fun _ _ _ _ _ => pts_nil) (fun _ _ _ _ _ => (pv 9)) (fun _ _ _ _ _ => pe_bl)) rfl)
      (pss_cons (ps_fld (pv 0) (pe_op op_rep (pe_lst (pa_cons pe_non pa_nil)) (pv 2)) rfl)
      (pss_cons (ps_fld (pv 0) (pe_lst pa_nil) rfl)
      (pss_cons (ps_expr (pe_meth0 (pv 0) CC.a.cl CC.mFi GFi hr2 bFi .nil pass0))
      (pss_cons (ps_fld (pv 0) pe_dnewK rfl)
      (pss_cons (ps_fld (pv 0) pe_dnewK rfl)
      (pss_mid (ps_if (pt_val (pe_meth (pv 0) CC.a.cl CC.mIF GIF hr1 bIF .nil pass0 (pa_cons (pe_ix ix_list (pe_fld (pv 0) rfl) pe_int (fun _ _ => rfl)) pa_nil))) (pss_one (ps_expr (pe_meth0 (pv 0) CC.a.cl CC.mRe GRe hr bRe .nil pass0))) pss_nil)
      (pss_one (ps_fld (pv 0) (pe_lc (own := [("at", 7), ("edge", 8)]) (g := gTup K 2 (gCons (gName 7) (gCons (gName 8) gNil))) (by rfl) scCi.nd (pi_enum (by rfl) T.enu (pa_cons (pe_fld (pv 0) rfl) pa_nil)) (blkOk_by (own := [("at", 7), ("edge", 8)]) (N := ["self", "web", "spots", "places", "_", "net", "told", "at", "edge", "spot"]) (sc := defScope sCI) (by decide +kernel)) (fun _ _ _ _ _ => (pg_tup (by rfl) (pgs_cons (pg_name (i := 7) scCi.nd rfl (Or.inl rfl)) (pgs_cons (pg_name (i := 8) scCi.nd rfl (Or.inl rfl)) pgs_nil)))) (fun _ _ _ _ _ => (pts_one (PW.pt (pw_and (pt_cmp (pc_din hu (show PE _ _ (tFld K _ _) from pe_fld (pv 8) rfl) (show PE _ _ (tFld K _ _) from pe_fld (pv 0) rfl))) (pw_and1 (pt_val (pe_meth (pv 0) CC.a.cl CC.mIO GIO hr2 bIO .nil pass0 (pa_cons (pv 8) pa_nil)))))))) (fun _ _ _ _ _ => (pv 7))) rfl))))))))))))))))), ?_⟩
    obtain ⟨b0, c0, xn, rfl, eb0, ec0, rn⟩ := wb_at hw
    have hnl : xn.length = W.ns.length := by rw [rn.len, List.length_map]
    have fb : ∀ {H'}, Fp p H H' → H' b0 = some (.tup [.int W.lb, .ref c0]) := fun {H'} f => f _ _ eb0 (by rintro rfl; rw [hp] at eb0; cases eb0)
    have fc : ∀ {H'}, Fp p H H' → H' c0 = some (.tup xn) := fun {H'} f => f _ _ ec0 (by rintro rfl; rw [hp] at ec0; cases ec0)
    -- label_count, starts, ends
    refine ⟨_, rfl, b0, _, 0, _, rfl, rfl, SqT.of eb0, atI_nat (j := 0) rfl, _, rfl, p, C, dx, [], rfl, hp, CC.a.cl, na "label_count" (by decide +kernel), by decide, ?_⟩
    have f1 : Fp p H (upd H p (.ins C dx (putF "label_count" (.int W.lb) []))) := (Fp.of (Same.refl H)).set
    have p1 : (upd H p (.ins C dx (putF "label_count" (.int W.lb) []))) p = some (.ins C dx (putF "label_count" (.int W.lb) [])) := upd_same
    generalize upd H p (.ins C dx (putF "label_count" (.int W.lb) [])) = H1 at f1 p1 ⊢
    refine ⟨Nat.zero_le _, fun sl hsl => ⟨_, rfl, p, C, dx, _, rfl, by rw [upd_ne (ne_of_none p1 hsl)]; exact p1, CC.a.cl, na "starts" (by decide +kernel), (by refine Nat.lt_of_le_of_lt (m := 40) ?_ (by decide); repeat (first | refine putF_le ?_ | exact Nat.zero_le _)), ?_⟩⟩
    have f2 := (f1.same (same_new (o := .lst []) hsl)).set (o := .ins C dx (putF "starts" (.ref sl) (putF "label_count" (.int W.lb) [])))
    have nsp : sl ≠ p := (ne_of_none p1 hsl).symm
    have sl2 : (upd (upd H1 sl (.lst [])) p (.ins C dx (putF "starts" (.ref sl) (putF "label_count" (.int W.lb) [])))) sl = some (.lst []) := by rw [upd_ne nsp, upd_same]
    have p2 : (upd (upd H1 sl (.lst [])) p (.ins C dx (putF "starts" (.ref sl) (putF "label_count" (.int W.lb) [])))) p = some (.ins C dx (putF "starts" (.ref sl) (putF "label_count" (.int W.lb) []))) := upd_same
    generalize upd (upd H1 sl (.lst [])) p (.ins C dx (putF "starts" (.ref sl) (putF "label_count" (.int W.lb) []))) = H2 at f2 sl2 p2 ⊢
    refine ⟨Nat.zero_le _, fun dl hdl => ⟨_, rfl, p, C, dx, _, rfl, by rw [upd_ne (ne_of_none p2 hdl)]; exact p2, CC.a.cl, na "ends" (by decide +kernel), (by refine Nat.lt_of_le_of_lt (m := 40) ?_ (by decide); repeat (first | refine putF_le ?_ | exact Nat.zero_le _)), ?_⟩⟩
    have nlp : dl ≠ p := (ne_of_none p2 hdl).symm
    have nls : dl ≠ sl := (ne_of_none sl2 hdl).symm
    have f3 := (f2.same (same_new (o := .lst []) hdl)).set (o := .ins C dx (fsA W.lb sl dl))
    have sl3 : (upd (upd H2 dl (.lst [])) p (.ins C dx (fsA W.lb sl dl))) sl = some (.lst []) := by rw [upd_ne nsp, upd_ne nls.symm]; exact sl2
    have dl3 : (upd (upd H2 dl (.lst [])) p (.ins C dx (fsA W.lb sl dl))) dl = some (.lst []) := by rw [upd_ne nlp, upd_same]
    have p3 : (upd (upd H2 dl (.lst [])) p (.ins C dx (fsA W.lb sl dl))) p = some (.ins C dx (fsA W.lb sl dl)) := upd_same
    have sl0 := f1.no p1 hsl
    have dl0 := f2.no p2 hdl
    change (fun H3 => _) (upd (upd H2 dl (.lst [])) p (.ins C dx (fsA W.lb sl dl)))
    generalize upd (upd H2 dl (.lst [])) p (.ins C dx (fsA W.lb sl dl)) = H3 at f3 sl3 dl3 p3 ⊢
    clear f1 f2 p1 p2 sl2 hsl hdl H1 H2
    refine ⟨_, rfl, b0, _, 1, _, rfl, rfl, SqT.of (fb f3), atI_nat (j := 1) rfl, c0, rfl, ⟨_, SqT.of (fc f3)⟩, ?_⟩
    have ls : (fsA W.lb sl dl).lookup ("starts" : Str) = some (.ref sl) := by unfold fsA; exact (by repeat (rw [lookup_putF]; first | rw [if_pos rfl] | rw [if_neg (by decide +kernel)]))
    have le : (fsA W.lb sl dl).lookup ("ends" : Str) = some (.ref dl) := by unfold fsA; exact (by repeat (rw [lookup_putF]; first | rw [if_pos rfl] | rw [if_neg (by decide +kernel)]))
    refine for_it (walk_tup (K := K) (a := c0) (xs := xn)) (fun i σ H' => ∃ v3 v4 v5 v6 v7 v8 v9 : Option V, σ = [some (.ref p), some (.ref b0), some (.int (stN W.ns i : Nat)), v3, v4, v5, v6, v7, v8, v9] ∧ Fp p H H' ∧ H' p = some (.ins C dx (fsA W.lb sl dl)) ∧ H' sl = some (lN ((List.range i).map (stN W.ns))) ∧ H' dl = some (lN ((List.range i).map fun a => stN W.ns (a + 1) - 1)))
      ⟨_, _, _, _, _, _, _, rfl, f3, p3, sl3, dl3⟩ (fun i σ H' _ ⟨_, _, _, _, _, _, _, _, f, _⟩ => SqT.of (fc f)) ?_ ?_
    · rintro i x σ H4z H4 hi ⟨v3, v4, v5, v6, v7, v8, v9, rfl, f4, p4, sl4, dl4⟩ ⟨rfl, hx⟩
      obtain ⟨dn, hdn, hxd⟩ := rn.at_ hx
      rw [List.getElem?_map] at hdn
      obtain ⟨nt, hnt, rfl⟩ := Option.map_eq_some_iff.mp hdn
      obtain ⟨b3, c3, xe, rfl, eb3, ec3, re⟩ := nt_at hxd
      have npos := okw.pos nt (List.mem_of_getElem? hnt)
      have hil : i < W.ns.length := by rw [← hnl]; exact hi
      have est := st_succ hnt
      have eq : ((stN W.ns i : Nat) : Int) + nt.1 = (stN W.ns (i + 1) : Nat) := by rw [est]; omega
      have eq2 : ((stN W.ns (i + 1) : Nat) : Int) - 1 = (stN W.ns (i + 1) - 1 : Nat) := by rw [est]; omega
      have eb3' := f4 _ _ eb3 (by rintro rfl; rw [hp] at eb3; cases eb3)
      refine ⟨b3, _, rfl, SqT.of eb3', (by rfl), _, _, rfl, _, _, rfl, rfl, ?_⟩
      refine ⟨_, rfl, p, C, dx, _, _, rfl, p4, CC.a.cl, na "starts" (by decide +kernel), ls, .inl ⟨rfl, _, SqL.of sl4⟩, _, rfl, sl, _, _, rfl, rfl, sl4, ?_, ?_⟩
      · rw [List.length_map, List.length_map, List.length_range, sizeLine_eq]
        omega
      have f5 : Fp p H (upd H4 sl (lN ((List.range (i + 1)).map (stN W.ns)))) := fun b o e n => by
        rw [upd_ne (ne_of_none e sl0)]
        exact f4 _ _ e n
      have p5 : (upd H4 sl (lN ((List.range (i + 1)).map (stN W.ns)))) p = some (.ins C dx (fsA W.lb sl dl)) := by rw [upd_ne nsp.symm]; exact p4
      have dl5 : (upd H4 sl (lN ((List.range (i + 1)).map (stN W.ns)))) dl = some (lN ((List.range i).map fun a => stN W.ns (a + 1) - 1)) := by rw [upd_ne nls]; exact dl4
      have sl5 : (upd H4 sl (lN ((List.range (i + 1)).map (stN W.ns)))) sl = some (lN ((List.range (i + 1)).map (stN W.ns))) := upd_same
      have eL : (HO.lst (((List.range i).map (stN W.ns)).map (fun n => V.int (n : Nat)) ++ [V.int (stN W.ns i : Nat)])) = lN ((List.range (i + 1)).map (stN W.ns)) := by
        unfold lN
        rw [List.range_succ, List.map_append, List.map_append]
        rfl
      rw [eL]
      generalize upd H4 sl _ = H5 at f5 p5 dl5 sl5 ⊢
      refine ⟨_, rfl, _, rfl, _, _, rfl, rfl, ?_⟩
      refine ⟨_, rfl, p, C, dx, _, _, rfl, p5, CC.a.cl, na "ends" (by decide +kernel), le, .inl ⟨rfl, _, SqL.of dl5⟩, _, rfl, _, _, rfl, rfl, dl, _, _, rfl, rfl, dl5, ?_, ?_⟩
      · rw [List.length_map, List.length_map, List.length_range, sizeLine_eq]
        omega
      have eL2 : (HO.lst (((List.range i).map fun a => stN W.ns (a + 1) - 1).map (fun n => V.int (n : Nat)) ++ [V.int (((stN W.ns i : Nat) : Int) + nt.1 - 1)])) = lN ((List.range (i + 1)).map fun a => stN W.ns (a + 1) - 1) := by
        rw [eq, eq2]
        unfold lN
        rw [List.range_succ, List.map_append, List.map_append]
        rfl
      generalize hH6 : upd H5 dl _ = H6
      have e6 : H6 = upd H5 dl (lN ((List.range (i + 1)).map fun a => stN W.ns (a + 1) - 1)) := by
        rw [← hH6]
        exact congrArg (fun o => upd H5 dl o) eL2
      refine ⟨some (.int nt.1), some (.ref c3), v5, v6, v7, v8, v9, ?_, ?_, ?_, ?_, ?_⟩
      · show [some (V.ref p), some (.ref b0), some (V.int (((stN W.ns i : Nat) : Int) + nt.1)), _, _, _, _, _, _, _] = _
        rw [eq]
      · rw [e6]
        intro b o e n
        rw [upd_ne (ne_of_none e dl0)]
        exact f5 _ _ e n
      · rw [e6, upd_ne nlp.symm]
        exact p5
      · rw [e6, upd_ne nls.symm]
        exact sl5
      · rw [e6, upd_same]
    rintro σ H4 ⟨v3, v4, v5, v6, v7, v8, v9, rfl, f4, p4, sl4, dl4⟩
    rw [hnl] at sl4 dl4 ⊢
    replace sl4 : H4 sl = some (.lst (stsV W)) := by
      rw [sl4]
      unfold lN stsV
      rw [List.map_map]
      rfl
    replace dl4 : H4 dl = some (lN (endsOf W)) := dl4
    clear f3 sl3 dl3 p3 H3
    refine ⟨_, rfl, _, rfl, p, C, dx, _, rfl, p4, CC.a.cl, na "spot_count" (by decide +kernel), (by refine Nat.lt_of_le_of_lt (m := 40) ?_ (by decide); repeat (first | refine putF_le ?_ | exact Nat.zero_le _)), ?_⟩
    have f5 := f4.set (o := .ins C dx (putF "spot_count" (.int (stN W.ns W.ns.length : Nat)) (fsA W.lb sl dl)))
    have p5 : (upd H4 p (.ins C dx (putF "spot_count" (.int (stN W.ns W.ns.length : Nat)) (fsA W.lb sl dl)))) p = some (.ins C dx (putF "spot_count" (.int (stN W.ns W.ns.length : Nat)) (fsA W.lb sl dl))) := upd_same
    have sl5 : (upd H4 p (.ins C dx (putF "spot_count" (.int (stN W.ns W.ns.length : Nat)) (fsA W.lb sl dl)))) sl = some (.lst (stsV W)) := by rw [upd_ne nsp]; exact sl4
    have dl5 : (upd H4 p (.ins C dx (putF "spot_count" (.int (stN W.ns W.ns.length : Nat)) (fsA W.lb sl dl)))) dl = some (lN (endsOf W)) := by rw [upd_ne nlp]; exact dl4
    change (fun H5 => _) (upd H4 p (.ins C dx (putF "spot_count" (.int (stN W.ns W.ns.length : Nat)) (fsA W.lb sl dl))))
    generalize upd H4 p _ = H5 at f5 p5 sl5 dl5 ⊢
    refine ⟨Nat.zero_le _, fun el hel => ⟨_, rfl, p, C, dx, _, rfl, by rw [upd_ne (ne_of_none p5 hel)]; exact p5, CC.a.cl, na "edges" (by decide +kernel), (by refine Nat.lt_of_le_of_lt (m := 40) ?_ (by decide); repeat (first | refine putF_le ?_ | exact Nat.zero_le _)), ?_⟩⟩
    have nep : el ≠ p := (ne_of_none p5 hel).symm
    have nes : el ≠ sl := (ne_of_none sl5 hel).symm
    have ned : el ≠ dl := (ne_of_none dl5 hel).symm
    have el0 := f5.no p5 hel
    have f6 := (f5.same (same_new (o := .lst []) hel)).set (o := .ins C dx (fsB W.lb sl dl el (stN W.ns W.ns.length)))
    have el6 : (upd (upd H5 el (.lst [])) p (.ins C dx (fsB W.lb sl dl el (stN W.ns W.ns.length)))) el = some (.lst []) := by rw [upd_ne nep, upd_same]
    have p6 : (upd (upd H5 el (.lst [])) p (.ins C dx (fsB W.lb sl dl el (stN W.ns W.ns.length)))) p = some (.ins C dx (fsB W.lb sl dl el (stN W.ns W.ns.length))) := upd_same
    have sl6 : (upd (upd H5 el (.lst [])) p (.ins C dx (fsB W.lb sl dl el (stN W.ns W.ns.length)))) sl = some (.lst (stsV W)) := by rw [upd_ne nsp, upd_ne nes.symm]; exact sl5
    have dl6 : (upd (upd H5 el (.lst [])) p (.ins C dx (fsB W.lb sl dl el (stN W.ns W.ns.length)))) dl = some (lN (endsOf W)) := by rw [upd_ne nlp, upd_ne ned.symm]; exact dl5
    change (fun H6 => _) (upd (upd H5 el (.lst [])) p (.ins C dx (fsB W.lb sl dl el (stN W.ns W.ns.length))))
    generalize upd (upd H5 el (.lst [])) p _ = H6 at f6 el6 p6 sl6 dl6 ⊢
    clear f5 p5 sl5 dl5 hel H5 f4 p4 sl4 dl4 H4
    have ls6 : (fsB W.lb sl dl el (stN W.ns W.ns.length)).lookup ("starts" : Str) = some (.ref sl) := by unfold fsB fsA; exact (by repeat (rw [lookup_putF]; first | rw [if_pos rfl] | rw [if_neg (by decide +kernel)]))
    have le6 : (fsB W.lb sl dl el (stN W.ns W.ns.length)).lookup ("edges" : Str) = some (.ref el) := by unfold fsB fsA; exact (by repeat (rw [lookup_putF]; first | rw [if_pos rfl] | rw [if_neg (by decide +kernel)]))
    have fw : ∀ {H'}, Fp el H6 H' → Fp p H H' := fun {H'} f b o e n => f b o (f6 b o e n) (ne_of_none e el0)
    have pw : ∀ {H'}, Fp el H6 H' → H' p = some (.ins C dx (fsB W.lb sl dl el (stN W.ns W.ns.length))) := fun {H'} f => f _ _ p6 nep.symm
    have hexl := ex_len (W := W)
    -- the edges
    refine ⟨_, rfl, b0, _, 1, _, rfl, rfl, SqT.of (fb f6), atI_nat (j := 1) rfl, c0, xn, rfl, SqT.of (fc f6), ?_⟩
    refine for_it (walk_enumT (K := K) (a := c0) (xs := xn)) (fun i σ H' => ∃ (xs : List V) (v3 v4 v5 v6 v7 v8 v9 : Option V), σ = [some (.ref p), some (.ref b0), some (.int (stN W.ns W.ns.length : Nat)), v3, v4, v5, v6, v7, v8, v9] ∧ Fp el H6 H' ∧ H' el = some (.lst xs) ∧ EdL CE H' W xs (exUp W i))
      ⟨[], _, _, _, _, _, _, _, rfl, Fp.of (Same.refl H6), el6, rfl, fun t y h => by cases h⟩ (fun i σ H' _ ⟨_, _, _, _, _, _, _, _, _, f, _⟩ => SqT.of (fc (fw f))) ?_ ?_
    · rintro i x σ H7 H7z hi ⟨xs, v3, v4, v5, v6, v7, v8, v9, rfl, f7, el7, ed7⟩ ⟨T0, x', y, rfl, hT, hH7, hx, hy⟩
      obtain rfl := Option.some.inj hx
      obtain ⟨sT, eT⟩ := freshF hT hH7.symm
      obtain ⟨dn, hdn, hyd⟩ := rn.at_ hy
      rw [List.getElem?_map] at hdn
      obtain ⟨nt, hnt, rfl⟩ := Option.map_eq_some_iff.mp hdn
      obtain ⟨b3, c3, xe, rfl, eb3, ec3, re⟩ := nt_at hyd
      have hil : i < W.ns.length := by rw [← hnl]; exact hi
      have f7z := f7.same sT
      have eb3' := fw f7z _ _ eb3 (by rintro rfl; rw [hp] at eb3; cases eb3)
      have ec3' := fw f7z _ _ ec3 (by rintro rfl; rw [hp] at ec3; cases ec3)
      have re' : ∀ {H'}, Kt H7z H' → DVs g H' xe (nt.2.map edD) := fun {H'} k => re.keepP (fun b xs e => k _ _ ((fw f7z).kt hp _ _ e)) (eds_pur nt.2)
      refine ⟨T0, _, rfl, SqT.of eT, (by rfl), _, _, rfl, _, _, rfl, b3, _, rfl, SqT.of eb3', (by rfl), _, _, rfl, _, _, rfl, rfl, rfl, ?_⟩
      refine ⟨_, rfl, p, C, dx, _, _, rfl, pw f7z, CC.a.cl, na "edges" (by decide +kernel), le6, .inl ⟨rfl, _, SqL.of (sT _ _ el7)⟩, ?_⟩
      refine ⟨_, rfl, c3, xe, rfl, SqT.of ec3', fun D hD => ?_⟩
      have hxe : xe.length = nt.2.length := by rw [re.len, List.length_map]
      have hedn : edsN W i = nt.2 := by
        unfold edsN
        rw [hnt]
        rfl
      have hedl : (exUp W i).length + nt.2.length ≤ 8000 := by
        have h1 := exUp_le W (show i + 1 ≤ W.ns.length by omega)
        rw [exUp_succ, List.length_append, List.length_map, List.length_zipIdx, hedn] at h1
        have : (exUp W W.ns.length).length = (gesOf W).length := hexl
        omega
      refine lc_it (walk_enumT (K := K) (a := c3) (xs := xe)) (fun j H' => ∃ ys : List V, H' D = some (.lst ys) ∧ Same H7z H' ∧ ys.length = j ∧ ∀ (k : Nat) (e : Ed), k < j → nt.2[k]? = some e → ∃ q : Addr, ys[k]? = some (.ref q) ∧ EOb CE H' W q i k e) ⟨[], upd_same, same_new hD, rfl, fun k e h => absurd h (Nat.not_lt_zero _)⟩ (fun j H' _ ⟨_, _, s', _⟩ => SqT.of (s' _ _ ec3')) ?_ ?_
      · rintro j x H8z H8 hj ⟨ys, e8, s8, hyl, hys⟩ ⟨T1, x', y, rfl, hT1, hH8, hx, hy⟩
        obtain rfl := Option.some.inj hx
        obtain ⟨sT1, eT1⟩ := freshF hT1 hH8.symm
        have s08 := s8.trans sT1
        obtain ⟨de, hde, hye⟩ := (re' (Kt.of s08)).at_ hy
        rw [List.getElem?_map] at hde
        obtain ⟨e, he, rfl⟩ := Option.map_eq_some_iff.mp hde
        refine ⟨T1, _, rfl, SqT.of eT1, (by rfl), _, _, rfl, _, _, rfl, rfl, (by rfl), ?_⟩
        refine ⟨_, rfl, _, rfl, _, rfl, _, rfl, p, C, dx, _, _, rfl, s08 _ _ (pw f7z), CC.a.cl, na "starts" (by decide +kernel), ls6, fun q dq hq hdq hne => ?_⟩
        have sq : Same H8 (upd (upd H8 dq (.own q)) q (.ins CE dq [])) := fun b o eb => by
          rw [upd_ne (ne_of_none eb hq), upd_ne (ne_of_none eb hdq)]
          exact eb
        refine ⟨g, q, dq, sl, _, W, i, j, nt, e, rfl, upd_same, hye.keepP (Kt.of sq) (ed_pur e), sq _ _ (s08 _ _ (f7z _ _ sl6 nes.symm)), hnt, List.mem_of_getElem? he, okw, fun H9 f9 ob => ⟨rfl, ys, ?_, ?_, ys ++ [.ref q], upd_same, ?_, ?_, ?_⟩⟩
        all_goals have s9 : Same H8 H9 := fun b o eb => f9 _ _ (sq _ _ eb) (ne_of_none eb hq)
        · exact s9 _ _ (sT1 _ _ e8)
        · rw [sizeLine_eq]
          omega
        · intro b o eb
          rw [upd_ne (ne_of_none eb hD)]
          exact s9 _ _ (s08 _ _ eb)
        · rw [List.length_append, hyl]
          rfl
        · have eD := s9 _ _ (sT1 _ _ e8)
          intro k e' hk he'
          by_cases hkj : k < j
          · obtain ⟨q', h1, h2⟩ := hys k e' hkj he'
            refine ⟨q', by rw [List.getElem?_append_left (by omega)]; exact h1, (h2.kx (Kx.of (sT1.trans s9))).kx (Kx.putL eD)⟩
          · have hkj : k = j := by omega
            subst hkj
            obtain rfl := Option.some.inj (he.symm.trans he')
            refine ⟨q, by rw [List.getElem?_append_right (by omega), hyl, Nat.sub_self]; rfl, ob.kx (Kx.putL eD)⟩
      rintro H8 ⟨ys, e8, s8, hyl, hys⟩
      rw [hxe] at hyl hys
      have el8 := s8 _ _ (sT _ _ el7)
      refine ⟨el, D, xs, ys, rfl, rfl, el8, e8, by rw [ed7.1, sizeLine_eq]; omega, ?_⟩
      refine ⟨xs ++ ys, _, _, _, _, _, _, _, rfl, (f7z.same s8).set, upd_same, ?_⟩
      have kx := Kx.putL (C := CE) (o := .lst (xs ++ ys)) el8
      refine EdL.app ((ed7.kx (Kx.of (sT.trans s8))).kx kx) (by rw [hyl, hedn]) fun k e he => ?_
      rw [hedn] at he
      obtain ⟨q, h1, h2⟩ := hys k e (List.getElem?_eq_some_iff.mp he).1 he
      exact ⟨q, h1, h2.kx kx⟩
    rintro σ H7 ⟨xs, v3, v4, v5, v6, v7, v8, v9, rfl, f7, el7, ed7⟩
    rw [hnl] at ed7
    have ed7 : EdL CE H7 W xs (exOf W) := ed7
    have p7 := pw f7
    have sl7 := f7 _ _ sl6 nes.symm
    have dl7 := f7 _ _ dl6 ned.symm
    have fw7 := fw f7
    clear f7 pw fw f6 el6 p6 sl6 dl6 H6
    have hxl : xs.length = (gesOf W).length := ed7.1.trans ex_len
    have hel8 : (endsOf W).length ≤ 400 := by
      unfold endsOf
      rw [List.length_map, List.length_range]
      exact hn4
    -- ends_at
    refine ⟨_, rfl, p, C, dx, _, _, rfl, p7, CC.a.cl, na "ends" (by decide +kernel), by unfold fsB fsA; exact (by repeat (rw [lookup_putF]; first | rw [if_pos rfl] | rw [if_neg (by decide +kernel)])), dl, rfl, ⟨_, SqL.of dl7⟩, fun da hda => ?_⟩
    refine dc_it (walk_list (K := K) (a := dl) (xs := (endsOf W).map fun n => V.int (n : Nat))) (fun i H' => H' da = some (.dK (endsKv ((endsOf W).take i))) ∧ Same H7 H') ⟨upd_same, same_new hda⟩ (fun _ _ _ h => SqL.of (h.2 _ _ dl7)) ?_ ?_
    · rintro i x H8z H8 hi ⟨e8, s8⟩ ⟨rfl, hx⟩
      rw [List.getElem?_map] at hx
      cases hy : (endsOf W)[i]? with
      | none => rw [hy] at hx; cases hx
      | some y =>
      rw [hy] at hx
      obtain rfl := Option.some.inj hx
      refine ⟨(by rfl), _, rfl, _, kN y, rfl, e8, ?_, ?_, ?_⟩
      · unfold endsKv
        rw [List.length_map, List.length_take, sizeLine_eq]
        omega
      · rw [upd_same]
        have : y ∉ (endsOf W).take i := fun hm => by
          obtain ⟨j, hj⟩ := List.getElem?_of_mem hm
          have hjl := (List.getElem?_eq_some_iff.mp hj).1
          rw [List.length_take] at hjl
          rw [List.getElem?_take_of_lt (by omega)] at hj
          have := nodup_at (ends_nd okw) hj hy
          omega
        rw [ends_put this, List.take_succ, hy]
        rfl
      · intro b o eb
        rw [upd_ne (ne_of_none eb hda)]
        exact s8 _ _ eb
    rintro H8z ⟨e8z, s8z⟩
    rw [List.length_map, List.take_length] at e8z
    refine ⟨_, rfl, p, C, dx, _, rfl, s8z _ _ p7, CC.a.cl, na "ends_at" (by decide +kernel), (by refine Nat.lt_of_le_of_lt (m := 40) ?_ (by decide); repeat (first | refine putF_le ?_ | exact Nat.zero_le _)), ?_⟩
    have f8 : Fp p H7 (upd H8z p (.ins C dx (putF "ends_at" (.ref da) (fsB W.lb sl dl el (stN W.ns W.ns.length))))) := (Fp.of s8z).set
    have da8 : (upd H8z p (.ins C dx (putF "ends_at" (.ref da) (fsB W.lb sl dl el (stN W.ns W.ns.length))))) da = some (.dK (endsKv (endsOf W))) := by rw [upd_ne (ne_of_none p7 hda).symm]; exact e8z
    have p8 : (upd H8z p (.ins C dx (putF "ends_at" (.ref da) (fsB W.lb sl dl el (stN W.ns W.ns.length))))) p = some (.ins C dx (putF "ends_at" (.ref da) (fsB W.lb sl dl el (stN W.ns W.ns.length)))) := upd_same
    change (fun H8 => _) (upd H8z p (.ins C dx (putF "ends_at" (.ref da) (fsB W.lb sl dl el (stN W.ns W.ns.length)))))
    generalize upd H8z p _ = H8 at f8 da8 p8 ⊢
    clear e8z s8z H8z
    -- choice
    refine ⟨(by show 1 ≤ sizeLine; decide), fun z1 hz1 => ?_⟩
    have s9z := same_new (o := .lst [.non]) hz1
    refine ⟨_, rfl, z1, ((stN W.ns W.ns.length : Nat) : Int), [.non], rfl, rfl, upd_same, by omega, by omega, by rw [Int.toNat_natCast, sizeLine_eq]; show 1 * _ ≤ _; omega, fun cl hcl => ?_⟩
    refine ⟨_, rfl, p, C, dx, _, rfl, by rw [upd_ne (ne_of_none (s9z _ _ p8) hcl)]; exact s9z _ _ p8, CC.a.cl, na "choice" (by decide +kernel), (by refine Nat.lt_of_le_of_lt (m := 40) ?_ (by decide); repeat (first | refine putF_le ?_ | exact Nat.zero_le _)), ?_⟩
    obtain ⟨f9, cl9, p9⟩ := stage (o := .lst (List.replicate ((stN W.ns W.ns.length : Nat) : Int).toNat [V.non]).flatten) (fs' := putF "choice" (.ref cl) (putF "ends_at" (.ref da) (fsB W.lb sl dl el (stN W.ns W.ns.length)))) hcl (s9z _ _ p8)
    change (fun H9 => _) (upd (upd (upd H8 z1 (.lst [.non])) cl (.lst (List.replicate ((stN W.ns W.ns.length : Nat) : Int).toNat [V.non]).flatten)) p (.ins C dx (putF "choice" (.ref cl) (putF "ends_at" (.ref da) (fsB W.lb sl dl el (stN W.ns W.ns.length))))))
    have ncl : ∀ {a : Addr} {o : HO}, H8 a = some o → a ≠ cl := fun {a o} e => ne_of_none (s9z _ _ e) hcl
    generalize upd (upd (upd H8 z1 _) cl _) p _ = H9 at f9 cl9 p9 ⊢
    have hrep : (List.replicate ((stN W.ns W.ns.length : Nat) : Int).toNat [V.non]).flatten = (List.replicate (stN W.ns W.ns.length) none).map oN := by
      rw [Int.toNat_natCast]
      generalize stN W.ns W.ns.length = m
      induction m with
      | zero => rfl
      | succ m ih => rw [List.replicate_succ, List.flatten_cons, ih, List.replicate_succ, List.map_cons]; rfl
    rw [hrep] at cl9
    have f9' : Fp p H8 H9 := fun b o e n => f9 b o (s9z _ _ e) n
    clear f9 hcl hz1 s9z
    -- order
    refine ⟨Nat.zero_le _, fun o0 ho0 => ⟨_, rfl, p, C, dx, _, rfl, by rw [upd_ne (ne_of_none p9 ho0)]; exact p9, CC.a.cl, na "order" (by decide +kernel), (by refine Nat.lt_of_le_of_lt (m := 40) ?_ (by decide); repeat (first | refine putF_le ?_ | exact Nat.zero_le _)), ?_⟩⟩
    obtain ⟨f10, -, p10⟩ := stage (o := .lst []) (fs' := fsC W.lb sl dl el da cl o0 (stN W.ns W.ns.length)) ho0 p9
    change (fun H10 => _) (upd (upd H9 o0 (.lst [])) p (.ins C dx (fsC W.lb sl dl el da cl o0 (stN W.ns W.ns.length))))
    generalize upd (upd H9 o0 _) p _ = H10 at f10 p10 ⊢
    have notp : ∀ {H' : Hp} {a : Addr} {o : HO} {fs : List (Str × V)}, H' p = some (.ins C dx fs) → H' a = some o → (∀ dx' fs', o ≠ .ins C dx' fs') → a ≠ p := fun hp' ha hn => by
      rintro rfl
      rw [hp'] at ha
      exact hn _ _ (Option.some.inj ha).symm
    have lnp : ∀ {H' : Hp} {a : Addr} {l : List V} {fs : List (Str × V)}, H' p = some (.ins C dx fs) → H' a = some (.lst l) → a ≠ p := fun hp' ha => notp hp' ha (fun _ _ z => by cases z)
    have f710 : Fp p H7 H10 := (f8.trans f9').trans f10
    have nep := lnp p7 el7
    have ndap := notp p8 da8 (fun _ _ z => by cases z)
    have nclp := lnp p9 cl9
    have el10 := f710 _ _ el7 nep
    have sl10 := f710 _ _ sl7 nsp
    have dl10 := f710 _ _ dl7 nlp
    have da10 := (f9'.trans f10) _ _ da8 ndap
    have cl10 := f10 _ _ cl9 nclp
    have ed10 := ed7.kx (f710.kx p7 hCE)
    have necl := ncl (f8 _ _ el7 nep)
    have ndcl := ncl (f8 _ _ dl7 nlp)
    have nscl := ncl (f8 _ _ sl7 nsp)
    have ndacl := ncl da8
    have cl0 : H cl = none := by
      have h1 := (fw7.trans f8)
      cases e : H cl with
      | none => rfl
      | some o => exact absurd rfl (ncl (h1 _ _ e nclp))
    have f010 : Fp p H H10 := fw7.trans f710
    clear f8 f9' f10 p8 p9 da8 cl9 ncl f710 ed7 el7 sl7 dl7 p7 fw7
    have hln : (fsC W.lb sl dl el da cl o0 (stN W.ns W.ns.length)).length < 900 := by unfold fsC fsB fsA; exact (by refine Nat.lt_of_le_of_lt (m := 40) ?_ (by decide); repeat (first | refine putF_le ?_ | exact Nat.zero_le _))
    have noC : ∀ m, m ∉ cNames → (fsC W.lb sl dl el da cl o0 (stN W.ns W.ns.length)).lookup m = none := fun m hm => by
      unfold fsC fsB fsA
      exact fs_no (fs_no (fs_no (fs_no (fs_no (fs_no (fs_no (fs_no rfl (by decide +kernel) hm) (by decide +kernel) hm) (by decide +kernel) hm) (by decide +kernel) hm) (by decide +kernel) hm) (by decide +kernel) hm) (by decide +kernel) hm) (by decide +kernel) hm
    -- finish
    refine ⟨_, rfl, p, dx, _, rfl, p10, noC "finish" (by decide +kernel), p, dx, cl, el, dl, xs, _, W, rfl, ⟨p10, by unfold fsC fsB fsA; exact (by repeat (rw [lookup_putF]; first | rw [if_pos rfl] | rw [if_neg (by decide +kernel)])), by unfold fsC fsB fsA; exact (by repeat (rw [lookup_putF]; first | rw [if_pos rfl] | rw [if_neg (by decide +kernel)])), by unfold fsC fsB fsA; exact (by repeat (rw [lookup_putF]; first | rw [if_pos rfl] | rw [if_neg (by decide +kernel)])), by unfold fsC fsB fsA; exact (by repeat (rw [lookup_putF]; first | rw [if_pos rfl] | rw [if_neg (by decide +kernel)])), el10, ed10, dl10, necl, ndcl, hCE, hln⟩, okw, cl10, fun H12 ol O ch fr12 hol ol12 cl12 p12 I12 fd12 => ?_⟩
    have el12 := fr12 _ _ el10 nep necl
    have sl12 := fr12 _ _ sl10 nsp nscl
    have dl12 := fr12 _ _ dl10 nlp ndcl
    have da12 := fr12 _ _ da10 ndap ndacl
    have ed12 := ed10.kx (fr12.kx p10 cl10 hCE)
    have f012 : Fp p H H12 := fun b o e n => fr12 b o (f010 b o e n) n (ne_of_none e cl0)
    clear fr12 el10 sl10 dl10 da10 ed10 f010 cl10 p10 cl0 hol ho0
    -- came, callers
    refine fun ca hca => ⟨_, rfl, p, C, dx, _, rfl, by rw [upd_ne (ne_of_none p12 hca)]; exact p12, CC.a.cl, na "came" (by decide +kernel), (by refine Nat.lt_of_le_of_lt (m := 40) ?_ (by decide); repeat (first | refine putF_le ?_ | exact Nat.zero_le _)), ?_⟩
    obtain ⟨f13, ca13, p13⟩ := stage (o := .dK []) (fs' := putF "came" (.ref ca) (putF "order" (.ref ol) (fsC W.lb sl dl el da cl o0 (stN W.ns W.ns.length)))) hca p12
    have had : ca ≠ da := (ne_of_none da12 hca).symm
    change (fun H13 => _) (upd (upd H12 ca (.dK [])) p (.ins C dx (putF "came" (.ref ca) (putF "order" (.ref ol) (fsC W.lb sl dl el da cl o0 (stN W.ns W.ns.length))))))
    generalize upd (upd H12 ca _) p _ = H13 at f13 ca13 p13 ⊢
    refine fun cr hcr => ⟨_, rfl, p, C, dx, _, rfl, by rw [upd_ne (ne_of_none p13 hcr)]; exact p13, CC.a.cl, na "callers" (by decide +kernel), (by refine Nat.lt_of_le_of_lt (m := 40) ?_ (by decide); repeat (first | refine putF_le ?_ | exact Nat.zero_le _)), ?_⟩
    obtain ⟨f14, cr14, p14⟩ := stage (o := .dK []) (fs' := fsD W.lb sl dl el da cl o0 ol ca cr (stN W.ns W.ns.length)) hcr p13
    have hac : ca ≠ cr := ne_of_none ca13 hcr
    have hrd : cr ≠ da := (ne_of_none (f13 _ _ da12 ndap) hcr).symm
    change (fun H14 => _) (upd (upd H13 cr (.dK [])) p (.ins C dx (fsD W.lb sl dl el da cl o0 ol ca cr (stN W.ns W.ns.length))))
    generalize upd (upd H13 cr _) p _ = H14 at f14 cr14 p14 ⊢
    have f1214 := f13.trans f14
    have ca14 := f14 _ _ ca13 (notp p13 ca13 (fun _ _ z => by cases z))
    have noD : ∀ m, m ∉ cNames → (fsD W.lb sl dl el da cl o0 ol ca cr (stN W.ns W.ns.length)).lookup m = none := fun m hm => by
      unfold fsD
      exact fs_no (fs_no (fs_no (noC m hm) (by decide +kernel) hm) (by decide +kernel) hm) (by decide +kernel) hm
    have R14 : ChR H14 C CE W p dx cl da el sl ca cr ch xs (fsD W.lb sl dl el da cl o0 ol ca cr (stN W.ns W.ns.length)) := by
      refine ⟨p14, ⟨by unfold fsD fsC fsB fsA; exact (by repeat (rw [lookup_putF]; first | rw [if_pos rfl] | rw [if_neg (by decide +kernel)])), by unfold fsD fsC fsB fsA; exact (by repeat (rw [lookup_putF]; first | rw [if_pos rfl] | rw [if_neg (by decide +kernel)])), f1214 _ _ cl12 nclp, f1214 _ _ da12 ndap⟩, I12.cl, fun x hx => ?_, noD, by unfold fsD fsC fsB fsA; exact (by repeat (rw [lookup_putF]; first | rw [if_pos rfl] | rw [if_neg (by decide +kernel)])), by unfold fsD fsC fsB fsA; exact (by repeat (rw [lookup_putF]; first | rw [if_pos rfl] | rw [if_neg (by decide +kernel)])), by unfold fsD fsC fsB fsA; exact (by repeat (rw [lookup_putF]; first | rw [if_pos rfl] | rw [if_neg (by decide +kernel)])), by unfold fsD fsC fsB fsA; exact (by repeat (rw [lookup_putF]; first | rw [if_pos rfl] | rw [if_neg (by decide +kernel)])), by unfold fsD fsC fsB fsA; exact (by repeat (rw [lookup_putF]; first | rw [if_pos rfl] | rw [if_neg (by decide +kernel)])), f1214 _ _ el12 nep, ed12.kx (f1214.kx p12 hCE), f1214 _ _ sl12 nsp⟩
      rw [finB_iff I12, fd12]
    have dl14 := f1214 _ _ dl12 nlp
    have ol14 := f1214 _ _ ol12 (notp p12 ol12 (fun _ _ z => by cases z))
    have f014 := f012.trans f1214
    have ca0 := f012.no p12 hca
    have cr0 := (f012.trans f13).no p13 hcr
    clear f1214 f012 f13 f14 el12 sl12 dl12 da12 ed12 cl12 ol12 p12 p13 ca13 hca hcr noC
    have h0 : (stsV W)[0]? = some (.int ((0 : Nat) : Int)) := sts_at (by omega)
    have hcl0 : 0 < ch.length := by
      rw [I12.cl]
      exact sp_lt (pl_0 okw)
    -- reach
    refine ⟨fun σ H' => ∃ (v3 v4 v5 v6 v7 v8 v9 : Option V) (kvs cvs : List (Key × V)), σ = [some (.ref p), some (.ref b0), some (.int (stN W.ns W.ns.length : Nat)), v3, v4, v5, v6, v7, v8, v9] ∧ Fr ca cr H14 H' ∧ H' ca = some (.dK kvs) ∧ H' cr = some (.dK cvs) ∧ ∀ x, Has kvs x ↔ Us (gesOf W) (endsOf W) 0 x, ?_, ?_⟩
    · refine ⟨_, rfl, p, dx, _, rfl, p14, noD "is_finished" (by decide +kernel), _, rfl, p, C, dx, _, _, rfl, p14, CC.a.cl, na "starts" (by decide +kernel), R14.st, sl, _, 0, .int ((0 : Nat) : Int), rfl, rfl, SqL.of R14.hs, atI_nat (j := 0) h0, p, dx, cl, da, _, ch, endsOf W, 0, rfl, p14, R14.f, hcl0, _, rfl, ?_⟩
      cases hb : finB ch (endsOf W) 0 with
      | false =>
        refine ifF rfl ⟨_, _, _, _, _, _, _, [], [], rfl, fun b o e _ _ => e, ca14, cr14, fun x => ⟨(fun h => by cases h), fun h => ?_⟩⟩
        have := (finB_iff I12 0).mpr ((fd12 0).mpr (us_fn h))
        rw [hb] at this
        cases this
      | true =>
        refine ifT rfl ⟨_, rfl, p, dx, _, rfl, p14, noD "reach" (by decide +kernel), p, dx, cl, da, el, sl, ca, cr, ch, xs, _, W, rfl, R14, okw, ca14, cr14, hac, had, hrd, (fd12 0).mp ((finB_iff I12 0).mp hb), fun H15 kvs cvs fr ea er hre => ?_⟩
        exact ⟨_, _, _, _, _, _, _, kvs, cvs, rfl, fr, ea, er, hre⟩
    rintro σ H15 ⟨v3, v4, v5, v6, v7, v8, v9, kvs, cvs, rfl, fr, ea, er, hre⟩
    have nn : ∀ {a : Addr} {o : HO}, H14 a = some o → (∀ l, o ≠ .dK l) → H15 a = some o := fun {a o} e h => fr _ _ e (by rintro rfl; rw [ca14] at e; exact h _ (Option.some.inj e).symm) (by rintro rfl; rw [cr14] at e; exact h _ (Option.some.inj e).symm)
    have R15 : ChR H15 C CE W p dx cl da el sl ca cr ch xs (fsD W.lb sl dl el da cl o0 ol ca cr (stN W.ns W.ns.length)) := { R14 with
      hp := nn p14 (fun _ z => by cases z)
      f := ⟨R14.f.choice, R14.f.ends_at, nn R14.f.hc (fun _ z => by cases z), fr _ _ R14.f.hd had.symm hrd.symm⟩
      he := nn R14.he (fun _ z => by cases z)
      hx := R14.hx.kx (fr.kx2 ca14 cr14)
      hs := nn R14.hs (fun _ z => by cases z) }
    have dl15 := nn dl14 (fun _ z => by cases z)
    have ol15 := nn ol14 (fun _ z => by cases z)
    have ncp := notp p14 ca14 (fun _ _ z => by cases z)
    have nrp := notp p14 cr14 (fun _ _ z => by cases z)
    have f015 : Fp p H H15 := fun b o e n => fr _ _ (f014 b o e n) (ne_of_none e ca0) (ne_of_none e cr0)
    clear fr R14 dl14 ol14 f014 ca14 cr14 p14
    -- used
    refine ⟨_, rfl, p, C, dx, _, _, rfl, R15.hp, CC.a.cl, na "edges" (by decide +kernel), R15.ed, el, xs, rfl, SqL.of R15.he, fun ul hul => ?_⟩
    refine lc_it (walk_enum (K := K) (a := el) (xs := xs)) (fun i H' => ∃ us : List Nat, H' ul = some (lN us) ∧ Same H15 H' ∧ us.length ≤ i ∧ (∀ a, a ∈ us ↔ a < i ∧ ∃ e, (gesOf W)[a]? = some e ∧ Us (gesOf W) (endsOf W) 0 e.s ∧ Op (gesOf W) (endsOf W) e) ∧ us.Pairwise (· < ·)) ⟨[], upd_same, same_new hul, Nat.le_refl _, (fun a => ⟨(fun h => by cases h), fun h => absurd h.1 (Nat.not_lt_zero _)⟩), .nil⟩ (fun i H' _ ⟨_, _, s', _⟩ => SqL.of (s' _ _ R15.he)) ?_ ?_
    · rintro i x H8z H8 hi ⟨us, e8, s8, hul8, hus, hpw⟩ ⟨T0, x', y, rfl, hT, hH8, hx, hy⟩
      obtain rfl := Option.some.inj hx
      obtain ⟨sT, eT⟩ := freshF hT hH8.symm
      have hil : i < (exOf W).length := by rw [← R15.hx.1]; exact hi
      obtain ⟨q, hq, ⟨dq, fq, hq1, hq2⟩⟩ := R15.hx.2 i _ (List.getElem?_eq_getElem hil)
      obtain rfl := Option.some.inj (hq.symm.trans hy)
      have hge := ex_ge (List.getElem?_eq_getElem hil)
      generalize hye : (exOf W)[i] = ye at hge hq2
      have hym : ye ∈ exOf W := by rw [← hye]; exact List.getElem_mem hil
      have s08 := s8.trans sT
      have stay : ¬ (Us (gesOf W) (endsOf W) 0 (geX W ye).s ∧ Op (gesOf W) (endsOf W) (geX W ye)) → ∀ H', Same H8 H' → ∃ us : List Nat, H' ul = some (lN us) ∧ Same H15 H' ∧ us.length ≤ i + 1 ∧ (∀ a, a ∈ us ↔ a < i + 1 ∧ ∃ e, (gesOf W)[a]? = some e ∧ Us (gesOf W) (endsOf W) 0 e.s ∧ Op (gesOf W) (endsOf W) e) ∧ us.Pairwise (· < ·) := fun hn H' s' => by
        refine ⟨us, s' _ _ (sT _ _ e8), s08.trans s', by omega, fun a => ?_, hpw⟩
        rw [hus a]
        constructor
        · rintro ⟨h1, h2⟩
          exact ⟨by omega, h2⟩
        · rintro ⟨h1, e, h2, h3⟩
          refine ⟨?_, e, h2, h3⟩
          by_cases hai : a = i
          · subst hai
            obtain rfl := Option.some.inj (hge.symm.trans h2)
            exact absurd h3 hn
          · omega
      refine ⟨T0, _, rfl, SqT.of eT, (by rfl), _, _, rfl, _, _, rfl, rfl, (by rfl), ?_⟩
      refine ⟨_, rfl, q, CE, dq, fq, _, rfl, s08 _ _ hq1, EE.cl, EE.na "spot" (by decide +kernel), hq2.spot, _, rfl, p, C, dx, _, _, rfl, s08 _ _ R15.hp, CC.a.cl, na "came" (by decide +kernel), R15.ca_, ca, _, rfl, DGet.k (k := kN (geX W ye).s) (s08 _ _ ea), _, rfl, ?_⟩
      cases hb : (valV kvs (kN (geX W ye).s)).isSome with
      | false =>
        refine ifF rfl (ifF rfl (stay (fun h => ?_) _ (Same.refl _)))
        have := (hre _).mpr h.1
        unfold Has at this
        rw [hb] at this
        cases this
      | true =>
      have hus0 := (hre _).mp hb
      refine ifT rfl ⟨_, rfl, p, dx, _, rfl, s08 _ _ R15.hp, noD "is_open" (by decide +kernel), _, rfl, p, dx, cl, da, q, _, ch, endsOf W, W, ye.1, ye.2.1, ye.2.2, rfl, s08 _ _ R15.hp, ⟨R15.f.choice, R15.f.ends_at, s08 _ _ R15.f.hc, s08 _ _ R15.f.hd⟩, noD, EOb.kx ⟨dq, fq, hq1, hq2⟩ (Kx.of s08), (fun z hz => by rw [I12.cl]; exact needs_lt okw hym z hz), fun H9 s9 => ⟨_, rfl, ?_⟩⟩
      have hop := R15.op okw hym
      by_cases ho : Op (gesOf W) (endsOf W) (geX W ye)
      rotate_left
      · refine ifF ?_ (stay (fun h => ho h.2) _ s9)
        cases hb2 : (needs (geOf W ye.1 ye.2.2)).all (finB ch (endsOf W)) with
        | false => rfl
        | true => exact absurd (hop.mp hb2) ho
      refine ifT (hop.mpr ho) ⟨_, rfl, us.map (fun n => V.int (n : Nat)), s9 _ _ (sT _ _ e8), by rw [List.length_map, sizeLine_eq]; omega, us ++ [i], ?_, ?_, ?_, fun a => ?_, ?_⟩
      · rw [upd_same]
        unfold lN
        rw [List.map_append]
        rfl
      · intro b o eb
        rw [upd_ne (ne_of_none eb hul)]
        exact s9 _ _ (s08 _ _ eb)
      · rw [List.length_append]
        show us.length + 1 ≤ _
        omega
      · rw [List.mem_append, List.mem_singleton, hus a]
        constructor
        · rintro (⟨h1, h2⟩ | rfl)
          · exact ⟨by omega, h2⟩
          · exact ⟨by omega, _, hge, hus0, ho⟩
        · rintro ⟨h1, h2⟩
          by_cases hai : a = i
          · exact .inr hai
          · exact .inl ⟨by omega, h2⟩
      · rw [List.pairwise_append]
        refine ⟨hpw, List.pairwise_singleton _ _, fun a ha b hb => ?_⟩
        rw [List.mem_singleton.mp hb]
        exact ((hus a).mp ha).1
    rintro H16 ⟨us, e16, s16, hul16, hus, hpw⟩
    refine ⟨_, rfl, p, C, dx, _, rfl, s16 _ _ R15.hp, CC.a.cl, na "used" (by decide +kernel), (by refine Nat.lt_of_le_of_lt (m := 40) ?_ (by decide); repeat (first | refine putF_le ?_ | exact Nat.zero_le _)), ?_⟩
    rw [hxl] at hus
    have f17 : Fp p H15 (upd H16 p (.ins C dx (putF "used" (.ref ul) (fsD W.lb sl dl el da cl o0 ol ca cr (stN W.ns W.ns.length))))) := (Fp.of s16).set
    have p17 : (upd H16 p (.ins C dx (putF "used" (.ref ul) (fsD W.lb sl dl el da cl o0 ol ca cr (stN W.ns W.ns.length))))) p = some (.ins C dx (putF "used" (.ref ul) (fsD W.lb sl dl el da cl o0 ol ca cr (stN W.ns W.ns.length)))) := upd_same
    have ul17 : (upd H16 p (.ins C dx (putF "used" (.ref ul) (fsD W.lb sl dl el da cl o0 ol ca cr (stN W.ns W.ns.length))))) ul = some (lN us) := by rw [upd_ne (ne_of_none R15.hp hul).symm]; exact e16
    change (fun H17 => _) (upd H16 p (.ins C dx (putF "used" (.ref ul) (fsD W.lb sl dl el da cl o0 ol ca cr (stN W.ns W.ns.length)))))
    generalize upd H16 p _ = H17 at f17 p17 ul17 ⊢
    have lk : ∀ {a : Addr} {l : List V}, H15 a = some (.lst l) → H17 a = some (.lst l) := fun {a l} e => f17 _ _ e (lnp R15.hp e)
    have dk : ∀ {a : Addr} {l : List (Key × V)}, H15 a = some (.dK l) → H17 a = some (.dK l) := fun {a l} e => f17 _ _ e (notp R15.hp e (fun _ _ z => by cases z))
    refine kq H17 cl da el sl dl ol ca cr ul ch O us xs kvs cvs _ (f015.trans f17) ⟨⟨p17, ⟨by unfold fsD fsC fsB fsA; exact (by repeat (rw [lookup_putF]; first | rw [if_pos rfl] | rw [if_neg (by decide +kernel)])), by unfold fsD fsC fsB fsA; exact (by repeat (rw [lookup_putF]; first | rw [if_pos rfl] | rw [if_neg (by decide +kernel)])), lk R15.f.hc, dk R15.f.hd⟩, I12.cl, R15.fin, fun m hm => fs_no (noD m hm) (by decide +kernel) hm, by unfold fsD fsC fsB fsA; exact (by repeat (rw [lookup_putF]; first | rw [if_pos rfl] | rw [if_neg (by decide +kernel)])), by unfold fsD fsC fsB fsA; exact (by repeat (rw [lookup_putF]; first | rw [if_pos rfl] | rw [if_neg (by decide +kernel)])), by unfold fsD fsC fsB fsA; exact (by repeat (rw [lookup_putF]; first | rw [if_pos rfl] | rw [if_neg (by decide +kernel)])), by unfold fsD fsC fsB fsA; exact (by repeat (rw [lookup_putF]; first | rw [if_pos rfl] | rw [if_neg (by decide +kernel)])), by unfold fsD fsC fsB fsA; exact (by repeat (rw [lookup_putF]; first | rw [if_pos rfl] | rw [if_neg (by decide +kernel)])), lk R15.he, R15.hx.kx (f17.kx R15.hp hCE), lk R15.hs⟩, by unfold fsD fsC fsB fsA; exact (by repeat (rw [lookup_putF]; first | rw [if_pos rfl] | rw [if_neg (by decide +kernel)])), by unfold fsD fsC fsB fsA; exact (by repeat (rw [lookup_putF]; first | rw [if_pos rfl] | rw [if_neg (by decide +kernel)])), by unfold fsD fsC fsB fsA; exact (by repeat (rw [lookup_putF]; first | rw [if_pos rfl] | rw [if_neg (by decide +kernel)])), by unfold fsD fsC fsB fsA; exact (by repeat (rw [lookup_putF]; first | rw [if_pos rfl] | rw [if_neg (by decide +kernel)])), lk ol15, lk dl15, dk ea, dk er, ul17, I12, fd12, hre, fun a => ?_, hpw⟩
    rw [hus a]
    constructor
    · exact fun h => h.2
    · rintro ⟨e, h1, h2⟩
      exact ⟨(List.getElem?_eq_some_iff.mp h1).1, e, h1, h2⟩
end
end K67

set_option Elab.async false
set_option linter.all false
set_option pp.maxSteps 900
set_option maxRecDepth 100000
set_option maxHeartbeats 4000000
namespace K67
open PySem PySem.Spec PyProof.Rows L2
open TL (tl)
abbrev sGo : Stmt := top 46
def g1 (kvs : List (List Key × V)) (a : Nat) (p : Int) (e : Ed) : Bool := decide (e.p = p) && (valV kvs (pK (a : Nat) e.t)).isSome
def g2 (kvs : List (List Key × V)) (e : Ed) : Bool := match e.c with
  | none => true
  | some c => (valV kvs (pK c 0)).isSome
def goL (kvs : List (List Key × V)) (a : Nat) (p : Int) (es : List Ed) : List Ed := (es.filter (g1 kvs a p)).filter (g2 kvs)
def spGo : Sp := fun vs H Q _ => ∃ (g f t : Addr) (vw : V) (W : Web) (kvs : List (List Key × V)) (a : Nat) (p : Int) (nt : Int × List Ed), vs = [vw, .ref f, .ref t] ∧ DV g H vw (wbD W) ∧ OkW W ∧ H f = some (.dT kvs) ∧ H t = some (.tup [.int (a : Nat), .int p]) ∧ W.ns[a]? = some nt ∧
  ∀ (D : Addr) (H' : Hp) (ys : List V), Same H H' → H D = none → H' D = some (.lst ys) → (∀ g', DVs g' H' ys ((goL kvs a p nt.2).map edD)) → Q (.ref D) H'
theorem filter_take {α : Type} (f : α → Bool) {l : List α} {i : Nat} {x : α} (h : l[i]? = some x) : (l.take (i + 1)).filter f = if f x = true then (l.take i).filter f ++ [x] else (l.take i).filter f := by
  rw [List.take_succ, h, List.filter_append]
  show _ ++ [x].filter f = _
  rw [List.filter_cons]
  split <;> simp
section
variable {P : Program} {w : World} {K : PySem.W.Frag} {mg : Str → Option Value} {base : Heap}
theorem scGo : FnScope ["web", "roads", "pair", "some", "edge"] ["web", "roads", "pair"] (defScope sGo) := ⟨rfl, rfl, rfl, by decide +kernel, rfl, by decide +kernel, by decide +kernel⟩
theorem ok_go {f : Addr} {fd : FuncData} (F : Fun K "_law_wb_going" "_law_wb_going" sGo f fd) (T : Bn mg) : FnOk P w K mg base CX0 1 f fd ["web", "roads", "pair"] spGo := by
  refine F.ok scGo (fun vs H Q E h => ?_) (fun cdv A outer s H vs Q E hr h => ?_)
  · obtain ⟨g, a, b, c, d, e, i, j, k, rfl, _⟩ := h
    rfl
  · obtain ⟨g, fr, t, vw, W, kvs, a, p, nt, rfl, hw, okw, ef, et, hnt, k⟩ := h
    have hu := hu_of hr
    refine ⟨_, (pss_cons (ps_setLc (i := 3) (own := [("edge", 4)]) (g := gName 4) (by rfl) scGo.nd rfl rfl (sw_true rfl rfl rfl (by decide +kernel)) (pi_tup (pe_ix ix_tup (pe_ix ix_tup (pe_ix ix_tup (pv 0) pe_int (fun _ _ => rfl)) (pe_ix ix_tup (pv 2) pe_int (fun _ _ => rfl)) (fun _ _ => rfl)) pe_int (fun _ _ => rfl))) (blkOk_by (own := [("edge", 4)]) (N := ["web", "roads", "pair", "some", "edge"]) (sc := defScope sGo) (by decide +kernel)) (fun _ _ _ _ _ => (pg_name (i := 4) scGo.nd rfl (Or.inl rfl))) (fun _ _ _ _ _ => (pts_one (PW.pt (pw_and (pt_cmpR op_eq (pe_ix (show IxR _ (rIxT K) from ix_tup) (pv 4) pe_int (fun _ _ => rfl)) (pe_ix (show IxR _ (rIxT K) from ix_tup) (pv 2) pe_int (fun _ _ => rfl)) (nomark _)) (pw_and1 (pt_cmp (pc_din hu (pe_tup (pa_cons (pe_ix (show IxR _ (rIxT K) from ix_tup) (pv 2) pe_int (fun _ _ => rfl)) (pa_cons (pe_ix (show IxR _ (rIxT K) from ix_tup) (pv 4) pe_int (fun _ _ => rfl)) pa_nil))) (pv 1)))))))) (fun _ _ _ _ _ => (pv 4)))
      (pss_one (ps_ret (pe_lc (own := [("edge", 4)]) (g := gName 4) (by rfl) scGo.nd (pi_list (pv 3)) (blkOk_by (own := [("edge", 4)]) (N := ["web", "roads", "pair", "some", "edge"]) (sc := defScope sGo) (by decide +kernel)) (fun _ _ _ _ _ => (pg_name (i := 4) scGo.nd rfl (Or.inl rfl))) (fun _ _ _ _ _ => (pts_one (PW.pt (pw_or (pt_cmpR op_isN (pe_ix (show IxR _ (rIxT K) from ix_tup) (pv 4) pe_int (fun _ _ => rfl)) pe_non (nomark _)) (pw_or1 (pt_cmp (pc_din hu (pe_tup (pa_cons (pe_ix (show IxR _ (rIxT K) from ix_tup) (pv 4) pe_int (fun _ _ => rfl)) (pa_cons pe_int pa_nil))) (pv 1)))))))) (fun _ _ _ _ _ => (pv 4)))))), ?_⟩
    obtain ⟨b0, c0, xn, rfl, eb0, ec0, rn⟩ := wb_at hw
    have hal := (List.getElem?_eq_some_iff.mp hnt).1
    have hxl : a < xn.length := by rw [rn.len, List.length_map]; exact hal
    obtain ⟨dn, hdn, hxd⟩ := rn.at_ (List.getElem?_eq_getElem hxl)
    rw [List.getElem?_map, hnt] at hdn
    obtain rfl := Option.some.inj hdn
    have hxa : xn[a]? = some (xn[a]'hxl) := List.getElem?_eq_getElem hxl
    generalize xn[a]'hxl = vx at hxa hxd
    obtain ⟨b3, c3, xe, rfl, eb3, ec3, re⟩ := nt_at hxd
    have hxe : xe.length = nt.2.length := by rw [re.len, List.length_map]
    have hel : nt.2.length ≤ 8000 := by
      have h1 := exUp_le W (show a + 1 ≤ W.ns.length by omega)
      rw [exUp_succ, List.length_append, List.length_map, List.length_zipIdx] at h1
      have h2 : edsN W a = nt.2 := by
        unfold edsN
        rw [hnt]
        rfl
      rw [h2] at h1
      have h3 := ges_len okw
      have h4 := ex_len (W := W)
      have : (exUp W W.ns.length).length = (gesOf W).length := h4
      omega
    refine ⟨_, rfl, b0, _, 1, _, rfl, rfl, SqT.of eb0, atI_nat (j := 1) rfl, _, rfl, t, _, 0, _, rfl, rfl, SqT.of et, atI_nat (j := 0) rfl, c0, xn, (a : Nat), .ref b3, rfl, rfl, SqT.of ec0, atI_nat hxa, b3, _, 1, _, rfl, rfl, SqT.of eb3, atI_nat (j := 1) rfl, c3, rfl, ⟨_, SqT.of ec3⟩, fun D hD => ?_⟩
    refine lc_it (walk_tup (K := K) (a := c3) (xs := xe)) (fun i H' => ∃ ys : List V, H' D = some (.lst ys) ∧ ys.length ≤ i ∧ Same H H' ∧ ∀ g', DVs g' H' ys (((nt.2.take i).filter (g1 kvs a p)).map edD)) ⟨[], upd_same, Nat.zero_le _, same_new hD, fun g' => .nil⟩ (fun i H' _ ⟨_, _, _, s', _⟩ => SqT.of (s' _ _ ec3)) ?_ ?_
    · rintro i x H2z H2 hi ⟨ys, e2, hyl, s2, hys⟩ ⟨rfl, hx⟩
      obtain ⟨de, hde, hxd2⟩ := re.at_ hx
      rw [List.getElem?_map] at hde
      obtain ⟨e, he, rfl⟩ := Option.map_eq_some_iff.mp hde
      obtain ⟨be, ae, rfl, ebe, xl, eae, rl⟩ := ed_at hxd2
      refine ⟨(by rfl), ?_⟩
      refine ⟨_, rfl, be, _, 0, _, rfl, rfl, SqT.of (s2 _ _ ebe), atI_nat (j := 0) rfl, _, rfl, t, _, 1, _, rfl, rfl, SqT.of (s2 _ _ et), atI_nat (j := 1) rfl, rfl, _, rfl, ?_⟩
      have stay : g1 kvs a p e = false → ∀ H', Same H2 H' → ∃ ys : List V, H' D = some (.lst ys) ∧ ys.length ≤ i + 1 ∧ Same H H' ∧ ∀ g', DVs g' H' ys (((nt.2.take (i + 1)).filter (g1 kvs a p)).map edD) := fun hg H' s' => by
        refine ⟨ys, s' _ _ e2, by omega, s2.trans s', fun g' => ?_⟩
        rw [filter_take _ he, hg]
        exact (hys g').keep (Kv.of s')
      by_cases hp : e.p = p
      rotate_left
      · refine ifF (decide_eq_false fun z => hp (V.int.inj z)) (ifF rfl (stay ?_ H2 (Same.refl H2)))
        unfold g1
        rw [decide_eq_false hp]
        rfl
      refine ifT (decide_eq_true (by rw [hp])) ⟨_, rfl, t, _, 0, _, rfl, rfl, SqT.of (s2 _ _ et), atI_nat (j := 0) rfl, _, rfl, be, _, 1, _, rfl, rfl, SqT.of (s2 _ _ ebe), atI_nat (j := 1) rfl, (by show 2 ≤ sizeLine; decide), fun q hq => ?_⟩
      generalize hH3 : upd H2 q _ = H3
      obtain ⟨sq, eq⟩ := freshF hq hH3
      have s03 := s2.trans sq
      refine ⟨_, rfl, fr, _, rfl, DGet.t (k := pK (a : Nat) e.t) (s03 _ _ ef) eq, _, rfl, ?_⟩
      cases hv : (valV kvs (pK (a : Nat) e.t)).isSome with
      | false =>
        refine ifF rfl (stay ?_ H3 sq)
        unfold g1
        rw [hv, Bool.and_false]
      | true =>
        have hg : g1 kvs a p e = true := by
          unfold g1
          rw [hv, decide_eq_true hp]
          rfl
        refine ifT rfl ⟨_, rfl, ys, sq _ _ e2, by rw [sizeLine_eq]; omega, ys ++ [.ref be], upd_same, by rw [List.length_append]; show ys.length + 1 ≤ _; omega, fun b o eb => ?_, fun g' => ?_⟩
        · rw [upd_ne (ne_of_none eb hD)]
          exact s03 _ _ eb
        · rw [filter_take _ he, hg, if_pos rfl, List.map_append]
          have kt : Kt H3 (upd H3 D (.lst (ys ++ [.ref be]))) := Kt.put (sq _ _ e2)
          exact (((hys g').keep (Kv.of sq)).keepP kt (eds_pur _)).app (.cons (((DV.keepP (g' := g') (Kt.of s03) (ed_pur e) hxd2).keepP kt (ed_pur e))) .nil)
    rintro H2 ⟨ys, e2, hyl, s2, hys⟩
    rw [hxe] at hys hyl
    rw [List.take_length] at hys
    refine ⟨_, rfl, D, rfl, ⟨_, SqL.of e2⟩, fun D2 hD2 => ?_⟩
    have hfl : ys.length = (nt.2.filter (g1 kvs a p)).length := by
      have := (hys g).len
      rw [List.length_map] at this
      exact this
    refine lc_it (walk_list (K := K) (a := D) (xs := ys)) (fun i H' => ∃ zs : List V, H' D2 = some (.lst zs) ∧ zs.length ≤ i ∧ Same H2 H' ∧ ∀ g', DVs g' H' zs ((((nt.2.filter (g1 kvs a p)).take i).filter (g2 kvs)).map edD)) ⟨[], upd_same, Nat.zero_le _, same_new hD2, fun g' => .nil⟩ (fun i H' _ ⟨_, _, _, s', _⟩ => SqL.of (s' _ _ e2)) ?_ ?_
    · rintro i x H3z H3 hi ⟨zs, e3, hzl, s3, hzs⟩ ⟨rfl, hx⟩
      obtain ⟨de, hde, hxd2⟩ := (hys g).at_ hx
      rw [List.getElem?_map] at hde
      obtain ⟨e, he, rfl⟩ := Option.map_eq_some_iff.mp hde
      obtain ⟨be, ae, rfl, ebe, xl, eae, rl⟩ := ed_at hxd2
      refine ⟨(by rfl), ?_⟩
      refine ⟨_, rfl, be, _, 2, _, rfl, rfl, SqT.of (s3 _ _ ebe), atI_nat (j := 2) rfl, rfl, _, rfl, ?_⟩
      have take : ∀ H', Same H3 H' → g2 kvs e = true → ∃ acc : List V, H' D2 = some (.lst acc) ∧ acc.length < sizeLine ∧ ∃ zs : List V, (upd H' D2 (.lst (acc ++ [.ref be]))) D2 = some (.lst zs) ∧ zs.length ≤ i + 1 ∧ Same H2 (upd H' D2 (.lst (acc ++ [.ref be]))) ∧ ∀ g', DVs g' (upd H' D2 (.lst (acc ++ [.ref be]))) zs ((((nt.2.filter (g1 kvs a p)).take (i + 1)).filter (g2 kvs)).map edD) := fun H' s' hg => by
        refine ⟨zs, s' _ _ e3, by rw [sizeLine_eq]; omega, zs ++ [.ref be], upd_same, by rw [List.length_append]; show zs.length + 1 ≤ _; omega, fun b o eb => ?_, fun g' => ?_⟩
        · rw [upd_ne (ne_of_none eb hD2)]
          exact s' _ _ (s3 _ _ eb)
        · rw [filter_take _ he, hg, if_pos rfl, List.map_append]
          have kt : Kt H' (upd H' D2 (.lst (zs ++ [.ref be]))) := Kt.put (s' _ _ e3)
          exact (((hzs g').keep (Kv.of s')).keepP kt (eds_pur _)).app (.cons (((DV.keepP (g' := g') (Kt.of (s3.trans s')) (ed_pur e) hxd2).keepP kt (ed_pur e))) .nil)
      cases hc : e.c with
      | none =>
        have hg : g2 kvs e = true := by
          unfold g2
          rw [hc]
        exact ifT rfl (ifT rfl ⟨_, rfl, take H3 (Same.refl H3) hg⟩)
      | some c =>
        rw [hc] at ebe
        refine ifF rfl ⟨_, rfl, be, _, 2, _, rfl, rfl, SqT.of (s3 _ _ ebe), atI_nat (j := 2) rfl, (by show 2 ≤ sizeLine; decide), fun q hq => ?_⟩
        generalize hH4 : upd H3 q _ = H4
        obtain ⟨sq, eq⟩ := freshF hq hH4
        refine ⟨_, rfl, fr, _, rfl, DGet.t (k := pK c 0) (sq _ _ (s3 _ _ (s2 _ _ ef))) eq, _, rfl, ?_⟩
        have hg2 : g2 kvs e = (valV kvs (pK c 0)).isSome := by
          unfold g2
          rw [hc]
        cases hv : (valV kvs (pK c 0)).isSome with
        | true => exact ifT rfl ⟨_, rfl, take H4 sq (hg2.trans hv)⟩
        | false =>
          refine ifF rfl ⟨zs, sq _ _ e3, by omega, s3.trans sq, fun g' => ?_⟩
          rw [filter_take _ he, hg2.trans hv]
          exact (hzs g').keep (Kv.of sq)
    rintro H3 ⟨zs, e3, hzl, s3, hzs⟩
    rw [hfl, List.take_length] at hzs
    exact k D2 H3 zs (s2.trans s3) (no_of s2 hD2) e3 hzs
end
end K67

set_option Elab.async false
set_option linter.all false
set_option pp.maxSteps 900
set_option maxRecDepth 100000
set_option maxHeartbeats 4000000
namespace K67
open PySem PySem.Spec PyProof.Rows L2
open TL (tl)
abbrev sUd : Stmt := top 45
section
variable {X : Cx} {o : Expr} {to : TE} {apos cpos : Pos}
theorem qPop (ho : PE X o to) (hbase : attributeBase o "pop" X.env (eval o X.env) = eval o X.env := by rfl) (hline : (apos.endLine == cpos.line) = true := by rfl) : PE X (.Call (.Attribute o "pop" apos) [] [] cpos) (tBM0 X.K "list" rPop to) :=
  pe_bm0 PySem.F.plainAttrs_list PySem.F.slot_list_pop PySem.F.type_list_pop mt_pop ho hbase hline
end
theorem key_iff {W : Web} {kvs : List (List Key × V)} (F : RdF W kvs) {a : Nat} {p : Int} : (valV kvs (pK (a : Nat) p)).isSome = true ↔ FinP W a p := by
  constructor
  · intro h
    obtain ⟨v, hv⟩ := Option.isSome_iff_exists.mp h
    obtain ⟨a2, p2, e2, hf⟩ := F.so _ _ hv
    obtain ⟨h1, rfl⟩ := pK_inj e2
    obtain rfl : a = a2 := by omega
    exact hf
  · exact F.co a p
theorem go_iff {W : Web} {kvs : List (List Key × V)} (o : OkW W) (F : RdF W kvs) {a : Nat} {p : Int} {nt : Int × List Ed} (h : W.ns[a]? = some nt) (e : Ed) : e ∈ goL kvs a p nt.2 ↔ e ∈ nt.2 ∧ e.p = p ∧ OpP W a e := by
  unfold goL
  rw [List.mem_filter, List.mem_filter]
  have h2 : e ∈ nt.2 → (g2 kvs e = true ↔ ∀ c, e.c = some c → FinP W c.toNat 0) := fun he => by
    unfold g2
    cases hc : e.c with
    | none => exact ⟨fun _ c h => by (cases h), fun _ => rfl⟩
    | some c =>
      have h0 := (o.ed nt (List.mem_of_getElem? h) e he).c c hc
      have hk : (valV kvs (pK c 0)).isSome = true ↔ FinP W c.toNat 0 := by
        rw [← key_iff F, Int.toNat_of_nonneg h0.1]
      show (valV kvs (pK c 0)).isSome = true ↔ _
      rw [hk]
      exact ⟨fun h c' e' => by obtain rfl := Option.some.inj e'; exact h, fun h => h c rfl⟩
  have h1 : g1 kvs a p e = true ↔ e.p = p ∧ FinP W a e.t := by
    unfold g1
    rw [Bool.and_eq_true, decide_eq_true_iff, key_iff F]
  constructor
  · rintro ⟨⟨he, hg⟩, hg'⟩
    exact ⟨he, (h1.mp hg).1, (h1.mp hg).2, (h2 he).mp hg'⟩
  · rintro ⟨he, hp, ho1, ho2⟩
    exact ⟨⟨he, h1.mpr ⟨hp, ho1⟩⟩, (h2 he).mpr ho2⟩
def pushes (a : Nat) (e : Ed) : List (Nat × Int) := (a, e.t) :: (match e.c with
  | none => []
  | some c => [(c.toNat, 0)])
theorem pushes_len (a : Nat) (e : Ed) : (pushes a e).length ≤ 2 := by
  unfold pushes
  cases e.c <;> simp
def prD (x : Nat × Int) : Dt := .tup [.int (x.1 : Nat), .int x.2]
def fnd (kv : List (List Key × V)) (x : Nat × Int) : Bool := (valV kv (pK (x.1 : Nat) x.2)).isSome
def cntE (W : Web) (kv : List (List Key × V)) : Nat := (exOf W).countP fun y => !fnd kv (y.1, y.2.2.p)
theorem countP_add {α : Type} {p q r : α → Bool} : ∀ {l : List α}, (∀ x ∈ l, (p x).toNat + (q x).toNat ≤ (r x).toNat) → l.countP p + l.countP q ≤ l.countP r
  | [], _ => Nat.le_refl _
  | x :: l, h => by
    have ih := countP_add (l := l) fun y hy => h y (List.mem_cons_of_mem _ hy)
    have h0 := h x List.mem_cons_self
    rw [List.countP_cons, List.countP_cons, List.countP_cons]
    cases hp : p x <;> cases hq : q x <;> cases hr : r x <;> rw [hp, hq, hr] at h0 <;> simp at h0 ⊢ <;> omega
theorem fnd_put {kv : List (List Key × V)} {x y : Nat × Int} {v : V} : fnd (putK kv (pK (x.1 : Nat) x.2) v) y = (fnd kv y || decide (y = x)) := by
  unfold fnd
  rw [valV_put]
  by_cases h : y = x
  · subst h
    rw [if_pos rfl, decide_eq_true rfl, Bool.or_true]
    rfl
  · rw [if_neg (fun e => h (by obtain ⟨h1, h2⟩ := pK_inj e; exact Prod.ext (by omega) h2)), decide_eq_false h, Bool.or_false]
theorem cnt_step {W : Web} {kvs kv : List (List Key × V)} {x : Nat × Int} {v : V} {nt : Int × List Ed} (hx : fnd kv x = false) (hnt : W.ns[x.1]? = some nt) : cntE W (putK kv (pK (x.1 : Nat) x.2) v) + (goL kvs x.1 x.2 nt.2).length ≤ cntE W kv := by
  have h1 : (goL kvs x.1 x.2 nt.2).length ≤ (exOf W).countP fun y => decide ((y.1, y.2.2.p) = x) := by
    have e1 : edsN W x.1 = nt.2 := by
      unfold edsN
      rw [hnt]
      rfl
    have e2 : ((edsN W x.1).zipIdx.map fun y => (x.1, y.2, y.1)).countP (fun y => decide ((y.1, y.2.2.p) = x)) = nt.2.countP fun e => decide (e.p = x.2) := by
      rw [List.countP_map, e1]
      have : ((fun y : Nat × Nat × Ed => decide ((y.1, y.2.2.p) = x)) ∘ fun y : Ed × Nat => (x.1, y.2, y.1)) = (fun e : Ed => decide (e.p = x.2)) ∘ Prod.fst := by
        funext y
        show decide ((x.1, y.1.p) = x) = decide (y.1.p = x.2)
        rw [decide_eq_decide]
        constructor
        · intro h
          rw [← h]
        · intro h
          rw [h]
      rw [this, ← List.countP_map, List.zipIdx_map_fst]
    have e3 : (goL kvs x.1 x.2 nt.2).length ≤ nt.2.countP fun e => decide (e.p = x.2) := by
      unfold goL
      refine Nat.le_trans (List.length_filter_le _ _) ?_
      rw [List.countP_eq_length_filter]
      refine (List.Sublist.length_le ?_)
      have : nt.2.filter (g1 kvs x.1 x.2) = (nt.2.filter fun e => decide (e.p = x.2)).filter (fun e => (valV kvs (pK (x.1 : Nat) e.t)).isSome) := by
        rw [List.filter_filter]
        congr 1
        funext e
        unfold g1
        rw [Bool.and_comm]
      rw [this]
      exact List.filter_sublist
    refine Nat.le_trans e3 ?_
    rw [← e2]
    refine List.Sublist.countP_le ?_
    unfold exOf exUp
    exact List.sublist_flatten_of_mem (List.mem_map.mpr ⟨x.1, List.mem_range.mpr (List.getElem?_eq_some_iff.mp hnt).1, rfl⟩)
  refine Nat.le_trans (Nat.add_le_add_left h1 _) ?_
  refine countP_add fun y _ => ?_
  rw [fnd_put]
  by_cases hy : (y.1, y.2.2.p) = x
  · rw [hy, hx, decide_eq_true rfl]
    decide
  · rw [decide_eq_false hy]
    cases fnd kv (y.1, y.2.2.p) <;> decide
structure UdI (W : Web) (L : List (Nat × Int)) (kv : List (List Key × V)) : Prop where
  sl : ∀ x ∈ L, UsP W x.1 x.2
  sk : ∀ k v, valV kv k = some v → ∃ (a : Nat) (p : Int), k = pK (a : Nat) p ∧ UsP W a p
  bs : FinP W 0 0 → fnd kv (0, 0) = true ∨ (0, 0) ∈ L
  cl : ∀ (a : Nat) (p : Int) (nt : Int × List Ed) (e : Ed), fnd kv (a, p) = true → W.ns[a]? = some nt → e ∈ nt.2 → e.p = p → OpP W a e → ∀ x ∈ pushes a e, fnd kv x = true ∨ x ∈ L
  ln : kv.length + L.length + 2 * cntE W kv ≤ 16001
theorem UdI.pop {W : Web} {L : List (Nat × Int)} {x : Nat × Int} {kv : List (List Key × V)} (h : UdI W (L ++ [x]) kv) (hx : fnd kv x = true) : UdI W L kv := by
  have go : ∀ {y : Nat × Int}, fnd kv y = true ∨ y ∈ L ++ [x] → fnd kv y = true ∨ y ∈ L := fun {y} hy => by
    rcases hy with hy | hy
    · exact .inl hy
    · rcases List.mem_append.mp hy with hy | hy
      · exact .inr hy
      · rw [List.mem_singleton.mp hy]
        exact .inl hx
  refine ⟨fun y hy => h.sl y (List.mem_append_left _ hy), h.sk, fun hf => go (h.bs hf), fun a p nt e h1 h2 h3 h4 h5 y hy => go (h.cl a p nt e h1 h2 h3 h4 h5 y hy), ?_⟩
  have := h.ln
  rw [List.length_append] at this
  have this : kv.length + (L.length + 1) + 2 * cntE W kv ≤ 16001 := this
  omega
theorem flat_len {a : Nat} : ∀ l : List Ed, (l.flatMap (pushes a)).length ≤ 2 * l.length
  | [] => Nat.le_refl _
  | e :: l => by
    have := flat_len (a := a) l
    have := pushes_len a e
    rw [List.flatMap_cons, List.length_append, List.length_cons]
    omega
theorem UdI.new {W : Web} {L : List (Nat × Int)} {x : Nat × Int} {kvs kv : List (List Key × V)} {v : V} {nt : Int × List Ed} (o : OkW W) (F : RdF W kvs) (h : UdI W (L ++ [x]) kv) (hx : fnd kv x = false) (hnt : W.ns[x.1]? = some nt) : UdI W (L ++ (goL kvs x.1 x.2 nt.2).flatMap (pushes x.1)) (putK kv (pK (x.1 : Nat) x.2) v) := by
  have hux := h.sl x (List.mem_append_right _ (List.mem_singleton.mpr rfl))
  have go : ∀ {y : Nat × Int}, fnd kv y = true ∨ y ∈ L ++ [x] → fnd (putK kv (pK (x.1 : Nat) x.2) v) y = true ∨ y ∈ L ++ (goL kvs x.1 x.2 nt.2).flatMap (pushes x.1) := fun {y} hy => by
    rw [fnd_put]
    rcases hy with hy | hy
    · exact .inl (by rw [hy] <;> rfl)
    · rcases List.mem_append.mp hy with hy | hy
      · exact .inr (List.mem_append_left _ hy)
      · exact .inl (by rw [decide_eq_true (List.mem_singleton.mp hy), Bool.or_true])
  refine ⟨fun y hy => ?_, fun k u e => ?_, fun hf => go (h.bs hf), fun a p nt' e h1 h2 h3 h4 h5 y hy => ?_, ?_⟩
  · rcases List.mem_append.mp hy with hy | hy
    · exact h.sl y (List.mem_append_left _ hy)
    · obtain ⟨e, he, hy⟩ := List.mem_flatMap.mp hy
      obtain ⟨h1, h2, h3⟩ := (go_iff o F hnt e).mp he
      rw [← h2] at hux
      rcases List.mem_cons.mp (show y ∈ (x.1, e.t) :: (match e.c with | none => [] | some c => [(c.toNat, 0)]) from hy) with rfl | hy
      · exact .goal hnt h1 hux h3
      · cases hc : e.c with
        | none => rw [hc] at hy; cases hy
        | some c =>
          rw [hc] at hy
          rw [List.mem_singleton.mp hy]
          exact .call hnt h1 hux h3 hc
  · rw [valV_put] at e
    by_cases ek : k = pK (x.1 : Nat) x.2
    · exact ⟨x.1, x.2, ek, hux⟩
    · rw [if_neg ek] at e
      exact h.sk k u e
  · rw [fnd_put] at h1
    cases hk : fnd kv (a, p) with
    | true => exact go (h.cl a p nt' e hk h2 h3 h4 h5 y hy)
    | false =>
      rw [hk, Bool.false_or] at h1
      have hax := of_decide_eq_true h1
      subst hax
      obtain rfl := Option.some.inj (hnt.symm.trans h2)
      exact .inr (List.mem_append_right _ (List.mem_flatMap.mpr ⟨e, (go_iff o F hnt e).mpr ⟨h3, h4, h5⟩, hy⟩))
  · have h1 := h.ln
    rw [List.length_append] at h1 ⊢
    have h1 : kv.length + (L.length + 1) + 2 * cntE W kv ≤ 16001 := h1
    have h2 := putK_le kv (pK (x.1 : Nat) x.2) v
    have h3 := cnt_step (kvs := kvs) (v := v) hx hnt
    have h4 := flat_len (a := x.1) (goL kvs x.1 x.2 nt.2)
    omega
theorem UdI.all {W : Web} {kv : List (List Key × V)} (h : UdI W [] kv) {a : Nat} {p : Int} (hu : UsP W a p) : fnd kv (a, p) = true := by
  have go : ∀ {y : Nat × Int}, fnd kv y = true ∨ y ∈ ([] : List (Nat × Int)) → fnd kv y = true := fun {y} hy => by
    rcases hy with hy | hy
    · exact hy
    · cases hy
  induction hu with
  | base hf => exact go (h.bs hf)
  | @goal a nt e h1 h2 h3 h4 ih => exact go (h.cl a e.p nt e ih h1 h2 rfl h4 (a, e.t) List.mem_cons_self)
  | @call a nt e c h1 h2 h3 h4 hc ih =>
    refine go (h.cl a e.p nt e ih h1 h2 rfl h4 (c.toNat, 0) (List.mem_cons_of_mem _ ?_))
    rw [hc]
    exact List.mem_singleton.mpr rfl
theorem dvs_snoc_inv {g : Addr} {H : Hp} {y : V} {d : Dt} : ∀ {xs : List V} {ds : List Dt}, DVs g H (xs ++ [y]) (ds ++ [d]) → DVs g H xs ds ∧ DV g H y d
  | [], [], h => by
    cases h with
    | cons h r => exact ⟨.nil, h⟩
  | [], d' :: ds, h => by
    have := h.len
    simp at this
  | x :: xs, [], h => by
    have := h.len
    simp at this
  | x :: xs, d' :: ds, h => by
    cases h with
    | cons h r =>
      obtain ⟨h1, h2⟩ := dvs_snoc_inv r
      exact ⟨.cons h h1, h2⟩
theorem flat_take {α β : Type} (f : α → List β) {l : List α} {i : Nat} {x : α} (h : l[i]? = some x) : (l.take (i + 1)).flatMap f = (l.take i).flatMap f ++ f x := by
  rw [List.take_succ, h, List.flatMap_append]
  show _ ++ [x].flatMap f = _
  rw [List.flatMap_cons, List.flatMap_nil, List.append_nil]
theorem snoc_of {α : Type} {l : List α} (h : l ≠ []) : ∃ l' x, l = l' ++ [x] := ⟨l.dropLast, l.getLast h, (List.dropLast_concat_getLast h).symm⟩
theorem cntE_le {W : Web} (o : OkW W) (kv : List (List Key × V)) : cntE W kv ≤ 8000 := by
  have h1 : cntE W kv ≤ (exOf W).length := List.countP_le_length
  have h2 := ges_len o
  have h3 := ex_len (W := W)
  omega
theorem prD_at {g : Addr} {H : Hp} {v : V} {x : Nat × Int} (h : DV g H v (prD x)) : ∃ t, v = .ref t ∧ H t = some (.tup [.int (x.1 : Nat), .int x.2]) := by
  obtain ⟨t, va, vb, rfl, e, h1, h2⟩ := h.tup2
  obtain rfl := h1.int_inv
  obtain rfl := h2.int_inv
  exact ⟨t, rfl, e⟩
theorem prD_of {g : Addr} {H : Hp} {t : Addr} {x : Nat × Int} (e : H t = some (.tup [.int (x.1 : Nat), .int x.2])) : DV g H (.ref t) (prD x) := .tup e (by show 2 ≤ 20000; decide) (.cons (.int _) (.cons (.int _) .nil))
theorem prs_pur (l : List (Nat × Int)) : purs (l.map prD) = true := purs_map fun _ _ => rfl
def spUd : Sp := fun vs H Q _ => ∃ (g f : Addr) (vw : V) (W : Web) (kvs : List (List Key × V)), vs = [vw, .ref f] ∧ DV g H vw (wbD W) ∧ OkW W ∧ H f = some (.dT kvs) ∧ RdF W kvs ∧
  ∀ (D : Addr) (H' : Hp) (kv : List (List Key × V)), Same H H' → H D = none → H' D = some (.dT kv) → (∀ k v, valV kv k = some v → ∃ (a : Nat) (p : Int), k = pK (a : Nat) p ∧ UsP W a p) → (∀ a p, fnd kv (a, p) = true ↔ UsP W a p) → kv.length ≤ 16001 → Q (.ref D) H'
section
variable {P : Program} {w : World} {K : PySem.W.Frag} {mg : Str → Option Value} {base : Heap}
theorem scUd : FnScope ["web", "roads", "found", "line", "pair", "edge"] ["web", "roads"] (defScope sUd) := ⟨rfl, rfl, rfl, by decide +kernel, rfl, by decide +kernel, by decide +kernel⟩
theorem ok_ud {f : Addr} {fd : FuncData} (F : Fun K "_law_wb_used" "_law_wb_used" sUd f fd) (T : Bn mg) (cGo : Cl P w K mg base "_law_wb_going" ["web", "roads", "pair"] 1 spGo) : FnOk P w K mg base CX0 2 f fd ["web", "roads"] spUd := by
  obtain ⟨fGo, fdGo, GGo, mGo, kGo, bGo⟩ := cGo
  refine F.ok scUd (fun vs H Q E h => ?_) (fun cdv A outer s H vs Q E hr h => ?_)
  · obtain ⟨g, a, b, c, d, rfl, _⟩ := h
    rfl
  · obtain ⟨g, fr, vw, W, kvs, rfl, hw, okw, ef, hrd, k⟩ := h
    have hu := hu_of hr
    refine ⟨_, (pss_mid (ps_par (i := 2) (j := 3) (by rfl) scUd.nd rfl rfl (by decide) rfl rfl (pa_cons pe_dnewT (pa_cons (pe_ifExp (pt_cmp (pc_din hu (pe_tup (pa_cons pe_int (pa_cons pe_int pa_nil))) (pv 1))) (pe_lst (pa_cons (pe_tup (pa_cons pe_int (pa_cons pe_int pa_nil))) pa_nil)) (pe_lst pa_nil)) pa_nil)) (by rfl))
      (pss_cons (ps_while PassesOwn.never (pt_cmpR (op_neNil hr.units) (pv 3) (pe_lst pa_nil) (nomark _))
          (pss_cons (ps_set (i := 4) scUd.nd rfl (Or.inl rfl) (qPop (pv 3)))
          (pss_one (ps_if (pt_cmp (pc_dnotin hu (pv 4) (pv 2))) (pss_cons (ps_dput hu (pv 2) (pv 4) pe_bl rfl)
              (pss_one (ps_for PassesOwn.never rfl (pi_list (pe_call GGo hr (by rfl) mGo kGo bGo .nil pass0 (pa_cons (pv 0) (pa_cons (pv 1) (pa_cons (pv 4) pa_nil))))) (pg_name (i := 5) scUd.nd rfl (Or.inl rfl))
                  (pss_cons (ps_expr (qApp (pv 3) (pe_tup (pa_cons (pe_ix ix_tup (pv 4) pe_int (fun _ _ => rfl)) (pa_cons (pe_ix ix_tup (pv 5) pe_int (fun _ _ => rfl)) pa_nil)))))
                  (pss_one (ps_if (pt_cmpR op_notN (pe_ix ix_tup (pv 5) pe_int (fun _ _ => rfl)) pe_non (nomark _)) (pss_one (ps_expr (qApp (pv 3) (pe_tup (pa_cons (pe_ix ix_tup (pv 5) pe_int (fun _ _ => rfl)) (pa_cons pe_int pa_nil)))))) pss_nil)))))) pss_nil))))
      (pss_one (ps_ret (pv 2))))), ?_⟩
    refine ⟨fun σ H' => ∃ (fD ln : Addr) (xs : List V) (L : List (Nat × Int)), σ = [some vw, some (.ref fr), some (.ref fD), some (.ref ln), none, none] ∧ Same H H' ∧ H' fD = some (.dT []) ∧ H' ln = some (.lst xs) ∧ (∀ g', DVs g' H' xs (L.map prD)) ∧ H fD = none ∧ H ln = none ∧ ln ≠ fD ∧ UdI W L [], ?_, ?_⟩
    · have base : ∀ L : List (Nat × Int), (∀ x ∈ L, UsP W x.1 x.2) → (FinP W 0 0 → (0, 0) ∈ L) → L.length ≤ 1 → UdI W L [] := fun L h1 h2 h3 => by
        refine ⟨h1, (fun k v e => by cases e), fun h => .inr (h2 h), (fun a p nt e h => by cases h), ?_⟩
        have := cntE_le okw []
        show 0 + L.length + _ ≤ _
        omega
      refine fun fD hfD => ?_
      generalize hH1 : upd H fD _ = H1
      obtain ⟨sfD, efD⟩ := freshF hfD hH1
      refine ⟨(by show 2 ≤ sizeLine; decide), fun t ht => ?_⟩
      generalize hH2 : upd H1 t _ = H2
      obtain ⟨st, et⟩ := freshF ht hH2
      have s02 := sfD.trans st
      refine ⟨_, rfl, fr, _, rfl, DGet.t (k := pK 0 0) (s02 _ _ ef) et, _, rfl, ?_⟩
      have hk := key_iff hrd (a := 0) (p := 0)
      cases hb : (valV kvs (pK 0 0)).isSome with
      | true =>
        have hf := hk.mp hb
        refine ifT rfl ⟨(by show 2 ≤ sizeLine; decide), fun t2 ht2 => ?_⟩
        generalize hH3 : upd H2 t2 _ = H3
        obtain ⟨st2, et2⟩ := freshF ht2 hH3
        refine ⟨(by show 1 ≤ sizeLine; decide), fun ln hln => ?_⟩
        generalize hH4 : upd H3 ln _ = H4
        obtain ⟨sln, eln⟩ := freshF hln hH4
        have s24 := st2.trans sln
        refine ⟨_, _, rfl, fD, ln, _, [(0, 0)], rfl, s02.trans s24, s24 _ _ (st _ _ efD), eln, fun g' => .cons (prD_of (sln _ _ et2)) .nil, hfD, no_of (s02.trans st2) hln, (ne_of_none ((st.trans st2) _ _ efD) hln).symm, base _ (fun x hx => ?_) (fun _ => List.mem_cons_self) (Nat.le_refl _)⟩
        rw [List.mem_singleton.mp hx]
        exact .base hf
      | false =>
        refine ifF rfl ⟨Nat.zero_le _, fun ln hln => ?_⟩
        generalize hH4 : upd H2 ln _ = H4
        obtain ⟨sln, eln⟩ := freshF hln hH4
        refine ⟨_, _, rfl, fD, ln, _, [], rfl, s02.trans sln, sln _ _ (st _ _ efD), eln, fun g' => .nil, hfD, no_of s02 hln, (ne_of_none (st _ _ efD) hln).symm, base _ (fun x hx => by cases hx) (fun h => ?_) (Nat.zero_le _)⟩
        have : (valV kvs (pK 0 0)).isSome = true := hk.mpr h
        rw [this] at hb
        cases hb
    rintro σ H1 ⟨fD, ln, xs0, L0, rfl, s1, efD, eln, dv0, hfD, hln, hlf, I0⟩
    refine while_m (fun m σ H' => ∃ (xs : List V) (L : List (Nat × Int)) (kv : List (List Key × V)) (v4 v5 : Option V), σ = [some vw, some (.ref fr), some (.ref fD), some (.ref ln), v4, v5] ∧ m = L.length + 2 * cntE W kv ∧ Same H H' ∧ H' fD = some (.dT kv) ∧ H' ln = some (.lst xs) ∧ (∀ g', DVs g' H' xs (L.map prD)) ∧ UdI W L kv) (L0.length + 2 * cntE W [])
      ⟨xs0, L0, [], _, _, rfl, rfl, s1, efD, eln, dv0, I0⟩ ?_
    clear I0 dv0 eln efD s1 L0 xs0 H1
    rintro m σ H1 ⟨xs, L, kv, v4, v5, rfl, hm, s1, efD, eln, dv, I⟩
    refine ⟨_, rfl, Nat.zero_le _, fun N hN => ?_⟩
    generalize hH2 : upd H1 N _ = H2
    obtain ⟨sN, eN⟩ := freshF hN hH2
    refine ⟨ln, N, xs, rfl, rfl, SqL.of (sN _ _ eln), SqL.of eN, _, rfl, ?_⟩
    have hlen : xs.length = L.length := by
      have := (dv g).len
      rw [List.length_map] at this
      exact this
    by_cases hL : L = []
    · subst hL
      have hxs : xs = [] := List.length_eq_zero_iff.mp hlen
      subst hxs
      refine ifF rfl ⟨_, rfl, k fD H2 kv (s1.trans sN) hfD (sN _ _ efD) I.sk (fun a p => ⟨fun h => ?_, fun h => I.all h⟩) (by have := I.ln; omega)⟩
      obtain ⟨v, hv⟩ := Option.isSome_iff_exists.mp (show (valV kv (pK (a : Nat) p)).isSome = true from h)
      obtain ⟨a2, p2, e2, hf⟩ := I.sk _ _ hv
      obtain ⟨h1, rfl⟩ := pK_inj e2
      obtain rfl : a = a2 := by omega
      exact hf
    obtain ⟨L, x, rfl⟩ := snoc_of hL
    obtain ⟨xs, y, rfl⟩ := snoc_of (show xs ≠ [] from fun h => by rw [h, List.length_append] at hlen; exact absurd hlen (by show ¬ 0 = _ + 1; omega))
    have hne : (!(xs ++ [y]).isEmpty) = true := by cases xs <;> rfl
    refine ifT hne ?_
    refine ⟨fun σ' H' => ∃ m', m' < m ∧ ∃ (xs : List V) (L : List (Nat × Int)) (kv : List (List Key × V)) (v4 v5 : Option V), σ' = [some vw, some (.ref fr), some (.ref fD), some (.ref ln), v4, v5] ∧ m' = L.length + 2 * cntE W kv ∧ Same H H' ∧ H' fD = some (.dT kv) ∧ H' ln = some (.lst xs) ∧ (∀ g', DVs g' H' xs (L.map prD)) ∧ UdI W L kv, fun σ' H' z => z, ?_⟩
    have s2 := s1.trans sN
    have dv2 : ∀ g', DVs g' H2 (xs ++ [y]) ((L ++ [x]).map prD) := fun g' => (dv g').keep (Kv.of sN)
    have eln2 := sN _ _ eln
    have efD2 := sN _ _ efD
    rw [List.map_append] at dv2
    have dvx := fun g' => (dvs_snoc_inv (dv2 g')).1
    obtain ⟨t, rfl, et⟩ := prD_at (dvs_snoc_inv (dv2 g)).2
    clear dv2 dv eln efD s1 sN eN hN hH2 H1
    refine ⟨_, rfl, .inl ⟨rfl, _, SqL.of eln2⟩, ln, xs ++ [.ref t], .ref t, rfl, rfl, eln2, by rw [List.length_append]; show (xs ++ [V.ref t])[xs.length + 1 - 1]? = _; rw [Nat.add_sub_cancel, List.getElem?_append_right (Nat.le_refl _), Nat.sub_self]; rfl, ?_⟩
    rw [List.dropLast_concat]
    have kt3 : Kt H2 (upd H2 ln (.lst xs)) := Kt.put eln2
    have s3 : Same H (upd H2 ln (.lst xs)) := fun b o eb => by
      rw [upd_ne (ne_of_none eb hln)]
      exact s2 _ _ eb
    have efD3 : (upd H2 ln (.lst xs)) fD = some (.dT kv) := by rw [upd_ne hlf.symm]; exact efD2
    have eln3 : (upd H2 ln (.lst xs)) ln = some (.lst xs) := upd_same
    have et3 := kt3 _ _ et
    have dv3 := fun g' => (dvx g').keepP (g' := g') kt3 (prs_pur L)
    generalize upd H2 ln (.lst xs) = H3 at s3 efD3 eln3 et3 dv3 ⊢
    clear kt3 dvx et s2 eln2 efD2 H2
    have hux := I.sl x (List.mem_append_right _ (List.mem_singleton.mpr rfl))
    have hIl := I.ln
    rw [List.length_append] at hIl hm
    replace hIl : kv.length + (L.length + 1) + 2 * cntE W kv ≤ 16001 := hIl
    replace hm : m = L.length + 1 + 2 * cntE W kv := hm
    refine ⟨_, rfl, _, rfl, fD, _, rfl, DGet.t (k := pK (x.1 : Nat) x.2) efD3 et3, _, rfl, ?_⟩
    cases hx : fnd kv x with
    | true =>
      have hx' : (valV kv (pK (x.1 : Nat) x.2)).isSome = true := hx
      rw [hx']
      exact ifF rfl ⟨L.length + 2 * cntE W kv, by omega, xs, L, kv, _, _, rfl, rfl, s3, efD3, eln3, dv3, I.pop hx⟩
    | false =>
    have hx' : (valV kv (pK (x.1 : Nat) x.2)).isSome = false := hx
    rw [hx']
    refine ifT rfl ⟨_, rfl, _, rfl, fD, _, rfl, DPut.t (k := pK (x.1 : Nat) x.2) efD3 et3 (by rw [sizeLine_eq]; omega), ?_⟩
    obtain ⟨nt, hnt, _, _⟩ := hux.pl okw
    have I2 := I.new (v := .bl true) okw hrd hx hnt
    have hcs := cnt_step (kvs := kvs) (v := .bl true) hx hnt
    have hcl := cntE_le okw kv
    have hfl := flat_len (a := x.1) (goL kvs x.1 x.2 nt.2)
    have s4 : Same H (upd H3 fD (.dT (putK kv (pK (x.1 : Nat) x.2) (.bl true)))) := fun b o eb => by
      rw [upd_ne (ne_of_none eb hfD)]
      exact s3 _ _ eb
    have efD4 : (upd H3 fD (.dT (putK kv (pK (x.1 : Nat) x.2) (.bl true)))) fD = some (.dT (putK kv (pK (x.1 : Nat) x.2) (.bl true))) := upd_same
    have eln4 : (upd H3 fD (.dT (putK kv (pK (x.1 : Nat) x.2) (.bl true)))) ln = some (.lst xs) := by rw [upd_ne hlf]; exact eln3
    have kt4 : Kt H3 (upd H3 fD (.dT (putK kv (pK (x.1 : Nat) x.2) (.bl true)))) := fun b l e => by
      rw [upd_ne (by rintro rfl; rw [efD3] at e; cases e)]
      exact e
    have et4 := kt4 _ _ et3
    have dv4 := fun g' => (dv3 g').keepP (g' := g') kt4 (prs_pur L)
    generalize putK kv (pK (x.1 : Nat) x.2) (.bl true) = kv2 at I2 hcs s4 efD4 eln4 et4 dv4 ⊢
    change (fun H4 => _) (upd H3 fD (.dT kv2))
    generalize upd H3 fD (.dT kv2) = H4 at s4 efD4 eln4 et4 dv4 ⊢
    clear kt4 dv3 et3 eln3 efD3 s3 H3
    refine ⟨_, rfl, _, rfl, _, rfl, g, fr, t, vw, W, kvs, x.1, x.2, nt, rfl, hw.keep (Kv.of s4), okw, s4 _ _ ef, et4, hnt, fun D H5 ys s5 hD eD dvD => ⟨D, rfl, ⟨_, SqL.of eD⟩, ?_⟩⟩
    have hDl : ln ≠ D := ne_of_none eln4 hD
    have hyl : ys.length = (goL kvs x.1 x.2 nt.2).length := by
      have := (dvD g).len
      rw [List.length_map] at this
      exact this
    have hes : ∀ e ∈ goL kvs x.1 x.2 nt.2, e ∈ nt.2 := fun e he => ((go_iff okw hrd hnt e).mp he).1
    have et5 := s5 _ _ et4
    generalize goL kvs x.1 x.2 nt.2 = es at I2 hcs hfl dvD hyl hes
    refine for_it (walk_list (K := K) (a := D) (xs := ys)) (fun j σ H' => ∃ (zs : List V) (v5 : Option V), σ = [some vw, some (.ref fr), some (.ref fD), some (.ref ln), some (.ref t), v5] ∧ Same H H' ∧ H' fD = some (.dT kv2) ∧ H' ln = some (.lst zs) ∧ (∀ g', DVs g' H' zs ((L ++ (es.take j).flatMap (pushes x.1)).map prD)) ∧ H' D = some (.lst ys) ∧ Kt H5 H') 
      ⟨xs, _, rfl, s4.trans s5, s5 _ _ efD4, s5 _ _ eln4, (fun g' => by rw [List.take_zero, List.flatMap_nil, List.append_nil]; exact (dv4 g').keep (Kv.of s5)), eD, fun _ _ e => e⟩ (fun j σ H' _ ⟨_, _, _, _, _, _, _, h, _⟩ => SqL.of h) ?_ ?_
    rotate_left
    · rintro σ H6 ⟨zs, v5, rfl, s6, efD6, eln6, dv6, eD6, _⟩
      rw [hyl, List.take_length] at dv6
      refine ⟨(L ++ es.flatMap (pushes x.1)).length + 2 * cntE W kv2, ?_, zs, L ++ es.flatMap (pushes x.1), kv2, _, _, rfl, rfl, s6, efD6, eln6, dv6, I2⟩
      rw [List.length_append]
      omega
    clear s5 eln4 efD4 dv4
    rintro j y σ H6z H6 hj ⟨zs, v5, rfl, s6, efD6, eln6, dv6, eD6, kt6⟩ ⟨rfl, hy⟩
    obtain ⟨de, hde, hyd⟩ := (dvD g).at_ hy
    rw [List.getElem?_map] at hde
    obtain ⟨e, he, rfl⟩ := Option.map_eq_some_iff.mp hde
    obtain ⟨be, ae, rfl, ebe, xl, eae, rl⟩ := ed_at (hyd.keepP (g' := g) kt6 (ed_pur e))
    have hzl : zs.length ≤ 40000 := by
      have h1 := (dv6 g).len
      rw [List.length_map, List.length_append] at h1
      have h2 := flat_len (a := x.1) (es.take j)
      rw [List.length_take] at h2
      omega
    have et6 := kt6 _ _ et5
    have hoe := okw.ed nt (List.mem_of_getElem? hnt) e (hes e (List.mem_of_getElem? he))
    refine ⟨_, rfl, .inl ⟨rfl, _, SqL.of eln6⟩, _, rfl, t, _, 0, _, rfl, rfl, SqT.of et6, atI_nat (j := 0) rfl, _, rfl, be, _, 1, _, rfl, rfl, SqT.of ebe, atI_nat (j := 1) rfl, (by show 2 ≤ sizeLine; decide), fun q hq => ?_⟩
    generalize hH7 : upd H6 q _ = H7
    obtain ⟨sq, eq⟩ := freshF hq hH7
    have eln7 := sq _ _ eln6
    refine ⟨ln, zs, _, rfl, rfl, eln7, by rw [sizeLine_eq]; omega, ?_⟩
    have kt78 : Kt H7 (upd H7 ln (.lst (zs ++ [.ref q]))) := Kt.put eln7
    have s8 : Same H (upd H7 ln (.lst (zs ++ [.ref q]))) := fun b o eb => by
      rw [upd_ne (ne_of_none eb hln)]
      exact sq _ _ (s6 _ _ eb)
    have efD8 : (upd H7 ln (.lst (zs ++ [.ref q]))) fD = some (.dT kv2) := by rw [upd_ne hlf.symm]; exact sq _ _ efD6
    have eD8 : (upd H7 ln (.lst (zs ++ [.ref q]))) D = some (.lst ys) := by rw [upd_ne hDl.symm]; exact sq _ _ eD6
    have eln8 : (upd H7 ln (.lst (zs ++ [.ref q]))) ln = some (.lst (zs ++ [.ref q])) := upd_same
    have kt8 : Kt H6 (upd H7 ln (.lst (zs ++ [.ref q]))) := fun b l e => kt78 _ _ (sq _ _ e)
    have dv8 : ∀ g', DVs g' (upd H7 ln (.lst (zs ++ [.ref q]))) (zs ++ [.ref q]) (((L ++ (es.take j).flatMap (pushes x.1)) ++ [(x.1, e.t)]).map prD) := fun g' => by
      rw [List.map_append]
      exact ((dv6 g').keepP (g' := g') kt8 (prs_pur _)).app (.cons (prD_of (x := (x.1, e.t)) (kt78 _ _ eq)) .nil)
    change (fun H8 => _) (upd H7 ln (.lst (zs ++ [.ref q])))
    generalize upd H7 ln (.lst (zs ++ [.ref q])) = H8 at kt78 s8 efD8 eD8 eln8 kt8 dv8 ⊢
    have ebe8 := kt8 _ _ ebe
    refine ⟨_, rfl, be, _, 2, _, rfl, rfl, SqT.of ebe8, atI_nat (j := 2) rfl, rfl, _, rfl, ?_⟩
    have kt08 : Kt H5 H8 := fun b l e => kt8 _ _ (kt6 _ _ e)
    cases hc : e.c with
    | none =>
      refine ifF rfl ⟨_, _, rfl, s8, efD8, eln8, fun g' => ?_, eD8, kt08⟩
      rw [flat_take _ he, ← List.append_assoc]
      have : pushes x.1 e = [(x.1, e.t)] := by
        unfold pushes
        rw [hc]
      rw [this]
      exact dv8 g'
    | some c =>
      rw [hc] at ebe8
      have h0 := hoe.c c hc
      obtain ⟨cn, rfl⟩ := Int.eq_ofNat_of_zero_le h0.1
      refine ifT rfl ⟨_, rfl, .inl ⟨rfl, _, SqL.of eln8⟩, _, rfl, be, _, 2, _, rfl, rfl, SqT.of ebe8, atI_nat (j := 2) rfl, (by show 2 ≤ sizeLine; decide), fun r hr => ?_⟩
      generalize hH9 : upd H8 r _ = H9
      obtain ⟨sr, er⟩ := freshF hr hH9
      have eln9 := sr _ _ eln8
      refine ⟨ln, _, _, rfl, rfl, eln9, by rw [List.length_append, sizeLine_eq]; show zs.length + 1 < _; omega, ?_⟩
      have kt9 : Kt H9 (upd H9 ln (.lst ((zs ++ [.ref q]) ++ [.ref r]))) := Kt.put eln9
      refine ⟨(zs ++ [.ref q]) ++ [.ref r], _, rfl, fun b o eb => ?_, ?_, upd_same, fun g' => ?_, ?_, fun b l e => kt9 _ _ (sr _ _ (kt08 _ _ e))⟩
      · rw [upd_ne (ne_of_none eb hln)]
        exact sr _ _ (s8 _ _ eb)
      · rw [upd_ne hlf.symm]
        exact sr _ _ efD8
      · rw [flat_take _ he]
        have : pushes x.1 e = [(x.1, e.t)] ++ [(cn, 0)] := by
          unfold pushes
          rw [hc]
          rfl
        rw [this, ← List.append_assoc, ← List.append_assoc, List.map_append]
        exact ((dv8 g').keepP (g' := g') (fun b l e => kt9 _ _ (sr _ _ e)) (prs_pur _)).app (.cons (prD_of (x := (cn, 0)) (kt9 _ _ er)) .nil)
      · rw [upd_ne hDl.symm]
        exact sr _ _ eD8
end
end K67

set_option Elab.async false
set_option linter.all false
set_option pp.maxSteps 900
set_option maxRecDepth 100000
set_option maxHeartbeats 4000000
namespace K67
open PySem PySem.Spec PyProof.Rows L2
/-! ### prices and heights (mathematics) -/
/-- the useful places of a net -/
noncomputable def usB (W : Web) (a : Nat) (p : Int) : Bool := @decide (UsP W a p) (Classical.propDecidable _)
theorem usB_iff {W : Web} {a : Nat} {p : Int} : usB W a p = true ↔ UsP W a p := by
  unfold usB
  exact @decide_eq_true_iff _ (Classical.propDecidable _)
theorem ints_pur (l : List Int) : purs (l.map Dt.int) = true := purs_map fun _ _ => rfl
def zt (t : Int) (xs ys : List Int) : List Int := List.zipWith (fun a b => a + t * b) xs ys
def dots (pr v : List Int) : Int := (List.zipWith (fun a b => a * b) pr v).sum
def wor (den : Int) (pr v : List Int) : Int := den * v.getLast?.getD 0 - dots pr v
def cst (den : Int) (pr : List Int) (e : Ed) : Int := den * e.b - (e.l.map fun k => pr.getD k.toNat 0).sum
def hC (h : Nat → Int → Int) : Option Int → Int
  | none => 0
  | some c => h c.toNat 0
structure Pot (W : Web) (c : Ed → Int) (h : Nat → Int → Int) : Prop where
  en : ∀ (a : Nat) (nt : Int × List Ed), W.ns[a]? = some nt → UsP W a (nt.1 - 1) → h a (nt.1 - 1) = 0
  st : UsP W 0 0 → h 0 0 = 0
  ed : ∀ (a : Nat) (nt : Int × List Ed) (e : Ed), W.ns[a]? = some nt → e ∈ nt.2 → UsP W a e.p → OpP W a e → h a e.p = c e + h a e.t + hC h e.c
theorem dots_zt (t : Int) : ∀ (pr x y : List Int), x.length = y.length → dots pr (zt t x y) = dots pr x + t * dots pr y
  | [], x, y, _ => by
    show (0 : Int) = 0 + t * 0
    omega
  | p :: pr, [], [], _ => by
    show (0 : Int) = 0 + t * 0
    omega
  | p :: pr, [], _ :: _, h => by cases h
  | p :: pr, _ :: _, [], h => by cases h
  | p :: pr, a :: x, b :: y, h => by
    have ih := dots_zt t pr x y (by simpa using h)
    show p * (a + t * b) + dots pr (zt t x y) = (p * a + dots pr x) + t * (p * b + dots pr y)
    rw [ih, Int.mul_add, Int.mul_add, ← Int.mul_assoc, ← Int.mul_assoc, Int.mul_comm p t]
    omega
theorem last_zt (t : Int) : ∀ (x y : List Int), x.length = y.length → (zt t x y).getLast?.getD 0 = x.getLast?.getD 0 + t * y.getLast?.getD 0
  | [], [], _ => by
    show (0 : Int) = 0 + t * 0
    omega
  | [], _ :: _, h => by cases h
  | _ :: _, [], h => by cases h
  | [a], [b], _ => rfl
  | [_], _ :: _ :: _, h => by cases h
  | _ :: _ :: _, [_], h => by cases h
  | a :: a' :: x, b :: b' :: y, h => by
    have ih := last_zt t (a' :: x) (b' :: y) (by simpa using h)
    have e : ∀ (u v : Int) (l : List Int), (u :: v :: l).getLast? = (v :: l).getLast? := fun u v l => by rw [List.getLast?_cons_cons]
    rw [show zt t (a :: a' :: x) (b :: b' :: y) = (a + t * b) :: (a' + t * b') :: zt t x y from rfl, e, e, e]
    exact ih
theorem wor_zt {den t : Int} {pr x y : List Int} (h : x.length = y.length) : wor den pr (zt t x y) = wor den pr x + t * wor den pr y := by
  unfold wor
  rw [dots_zt t pr x y h, last_zt t x y h, Int.mul_add, Int.mul_sub, ← Int.mul_assoc, ← Int.mul_assoc, Int.mul_comm den t]
  omega
theorem dots_zero : ∀ (pr : List Int) (n : Nat), dots pr (List.replicate n 0) = 0
  | [], n => rfl
  | p :: pr, 0 => rfl
  | p :: pr, n + 1 => by
    have := dots_zero pr n
    show p * 0 + dots pr (List.replicate n 0) = 0
    omega
theorem wor_zer {den : Int} {pr : List Int} {W : Web} : wor den pr (zer W) = 0 := by
  unfold wor zer
  rw [dots_zero, List.replicate_succ', List.getLast?_concat]
  show den * 0 - 0 = 0
  omega
theorem dots_set : ∀ (pr v : List Int) (k : Nat), k < v.length → dots pr (v.set k (v.getD k 0 + 1)) = dots pr v + pr.getD k 0
  | [], v, k, _ => by
    show (0 : Int) = 0 + 0
    rfl
  | p :: pr, [], k, h => by cases h
  | p :: pr, x :: v, 0, h => by
    show p * (x + 1) + dots pr v = p * x + dots pr v + p
    rw [Int.mul_add]
    omega
  | p :: pr, x :: v, k + 1, h => by
    have ih := dots_set pr v k (Nat.lt_of_succ_lt_succ h)
    show p * x + dots pr (v.set k (v.getD k 0 + 1)) = p * x + dots pr v + pr.getD k 0
    omega
theorem last_set {v : List Int} {b x : Int} {k : Nat} (h : k < v.length) : ((v ++ [b]).set k x).getLast?.getD 0 = b := by
  rw [List.set_append_left _ _ h, List.getLast?_concat]
  rfl
theorem wor_bump {den b : Int} {pr : List Int} : ∀ (l : List Int) (v : List Int), (∀ i ∈ l, 0 ≤ i ∧ i.toNat < v.length) → wor den pr (bump (v ++ [b]) l) = den * b - dots pr (v ++ [b]) - (l.map fun k => pr.getD k.toNat 0).sum
  | [], v, _ => by
    show den * (v ++ [b]).getLast?.getD 0 - dots pr (v ++ [b]) = den * b - dots pr (v ++ [b]) - 0
    rw [List.getLast?_concat]
    show den * b - _ = _
    omega
  | k :: l, v, h => by
    obtain ⟨h0, h1⟩ := h k List.mem_cons_self
    show wor den pr (bump ((v ++ [b]).set k.toNat ((v ++ [b]).getD k.toNat 0 + 1)) l) = _
    have e : (v ++ [b]).set k.toNat ((v ++ [b]).getD k.toNat 0 + 1) = v.set k.toNat ((v ++ [b]).getD k.toNat 0 + 1) ++ [b] := List.set_append_left _ _ h1
    have hd := dots_set pr (v ++ [b]) k.toNat (by rw [List.length_append]; omega)
    rw [e] at hd ⊢
    rw [wor_bump l _ (fun i hi => by rw [List.length_set]; exact h i (List.mem_cons_of_mem _ hi)), hd, List.map_cons, List.sum_cons]
    omega
theorem wor_own {W : Web} {den : Int} {pr : List Int} {e : Ed} (h : ∀ i ∈ e.l, 0 ≤ i ∧ i ≤ W.lb - 1) (hp : pr.length = W.lb.toNat) : wor den pr (own W.lb e) = cst den pr e := by
  unfold own
  rw [wor_bump e.l _ fun i hi => by rw [List.length_replicate]; have := h i hi; omega]
  have : ∀ (pr : List Int) (n : Nat), pr.length = n → dots pr (List.replicate n 0 ++ [e.b]) = 0 := by
    intro pr
    induction pr with
    | nil => intro n h; rfl
    | cons p pr ih =>
      intro n h
      obtain ⟨m, rfl⟩ : ∃ m, n = m + 1 := ⟨pr.length, h.symm⟩
      have := ih m (by simpa using h)
      show p * 0 + dots pr (List.replicate m 0 ++ [e.b]) = 0
      omega
  rw [this pr _ hp]
  unfold cst
  omega
theorem zer_len {W : Web} : (zer W).length = W.lb.toNat + 1 := List.length_replicate
theorem RV.len {W : Web} {a : Nat} {p : Int} {v : List Int} (h : RV W a p v) : v.length = W.lb.toNat + 1 := by
  induction h with
  | end_ _ => exact zer_len
  | @step a nt e xc xt h he ht hc h0 iht ihc =>
    have hx : xc.length = W.lb.toNat + 1 := by
      cases hce : e.c with
      | none => rw [h0 hce, zer_len]
      | some c => exact ihc c hce
    show (List.zipWith _ (List.zipWith _ (own W.lb e) xc) xt).length = _
    rw [List.length_zipWith, List.length_zipWith, own_len, hx, iht]
    omega
theorem RV.fin {W : Web} {a : Nat} {p : Int} {v : List Int} (h : RV W a p v) : FinP W a p := by
  induction h with
  | end_ h => exact .end_ h
  | @step a nt e xc xt h he ht hc h0 iht ihc => exact .step h he iht ihc
theorem FinP.rv {W : Web} {a : Nat} {p : Int} (h : FinP W a p) : ∃ v, RV W a p v := by
  induction h with
  | end_ h => exact ⟨_, .end_ h⟩
  | @step a nt e h he ht hc iht ihc =>
    obtain ⟨xt, hxt⟩ := iht
    cases hce : e.c with
    | none => exact ⟨_, .step h he hxt (xc := zer W) (fun c e' => by rw [hce] at e'; cases e') fun _ => rfl⟩
    | some c =>
      obtain ⟨xc, hxc⟩ := ihc c hce
      exact ⟨_, .step h he hxt (xc := xc) (fun c' e' => by rw [hce] at e'; obtain rfl := Option.some.inj e'; exact hxc) fun e' => by rw [hce] at e'; cases e'⟩
theorem UsP.fin {W : Web} {a : Nat} {p : Int} (h : UsP W a p) : FinP W a p := by
  cases h with
  | base h => exact h
  | goal _ _ _ ho => exact ho.1
  | call _ _ _ ho hc => exact ho.2 _ hc
section
variable {W : Web} {den : Int} {pr : List Int} {h : Nat → Int → Int}
theorem zs_zt (x y : List Int) : zs x y = zt 1 x y := rfl
/-- the value of a road is the height -/
theorem RV.wor (o : OkW W) (hp : pr.length = W.lb.toNat) (P : Pot W (cst den pr) h) {a : Nat} {p : Int} {v : List Int} (r : RV W a p v) : UsP W a p → wor den pr v = h a p := by
  induction r with
  | @end_ a nt hn =>
    intro hu
    rw [wor_zer, P.en a nt hn hu]
  | @step a nt e xc xt hn he ht hc h0 iht ihc =>
    intro hu
    have ho : OpP W a e := ⟨ht.fin, fun c hce => (hc c hce).fin⟩
    have hx : xc.length = W.lb.toNat + 1 := by
      cases hce : e.c with
      | none => rw [h0 hce, zer_len]
      | some c => exact (hc c hce).len
    rw [zs_zt, zs_zt, wor_zt (by show (List.zipWith _ (own W.lb e) xc).length = _; rw [List.length_zipWith, own_len, hx, ht.len]; omega), wor_zt (by rw [own_len, hx]), wor_own (o.ed nt (List.mem_of_getElem? hn) e he).k hp, iht (.goal hn he hu ho), P.ed a nt e hn he hu ho]
    have : _root_.K67.wor den pr xc = hC h e.c := by
      cases hce : e.c with
      | none => rw [h0 hce, wor_zer] <;> rfl
      | some c => exact ihc c hce (.call hn he hu ho hce)
    rw [this]
    omega
theorem Pot.uni (o : OkW W) (hp : pr.length = W.lb.toNat) {h' : Nat → Int → Int} (P : Pot W (cst den pr) h) (P' : Pot W (cst den pr) h') {a : Nat} {p : Int} (hu : UsP W a p) : h a p = h' a p := by
  obtain ⟨v, hv⟩ := hu.fin.rv
  rw [← hv.wor o hp P hu, ← hv.wor o hp P' hu]
/-! #### the table of heights -/
noncomputable def htN (W : Web) (h : Nat → Int → Int) (a : Nat) : Dt := .tup ((List.range ((W.ns[a]?.map fun n => n.1.toNat).getD 0)).map fun p => if usB W a ((p : Nat) : Int) = true then .int (h a ((p : Nat) : Int)) else .non)
noncomputable def htD (W : Web) (h : Nat → Int → Int) : Dt := .tup ((List.range W.ns.length).map (htN W h))
noncomputable def duD (W : Web) (den : Int) (pr : List Int) : Dt := @dite _ (∃ h, Pot W (cst den pr) h) (Classical.propDecidable _) (fun z => htD W (Classical.choose z)) (fun _ => .non)
theorem duD_of (o : OkW W) (hp : pr.length = W.lb.toNat) (P : Pot W (cst den pr) h) : duD W den pr = htD W h := by
  unfold duD
  rw [dif_pos ⟨h, P⟩]
  unfold htD
  congr 1
  refine List.map_congr_left fun a _ => ?_
  unfold htN
  congr 1
  refine List.map_congr_left fun p _ => ?_
  by_cases hu : usB W a ((p : Nat) : Int) = true
  · rw [if_pos hu, if_pos hu, Pot.uni o hp (Classical.choose_spec (⟨h, P⟩ : ∃ h, Pot W (cst den pr) h)) P (usB_iff.mp hu)]
  · rw [if_neg hu, if_neg hu]
theorem duD_no (n : ¬ ∃ h, Pot W (cst den pr) h) : duD W den pr = .non := by
  unfold duD
  rw [dif_neg n]
end
/-! #### what the law takes for the rests -/
def rst (W : Web) (val : Nat → Int → List Int) (a : Nat) (e : Ed) : List Int := zt (-1) (match e.c with
  | none => zt (-1) (val a e.p) (own W.lb e)
  | some c => zt (-1) (zt (-1) (val a e.p) (own W.lb e)) (val c.toNat 0)) (val a e.t)
def UsE (W : Web) (a : Nat) (e : Ed) : Prop := ∃ nt, W.ns[a]? = some nt ∧ e ∈ nt.2 ∧ UsP W a e.p ∧ OpP W a e
structure RsOk (W : Web) (val : Nat → Int → List Int) (L : List (List Int)) : Prop where
  so : ∀ xs ∈ L, (xs = val 0 0 ∧ UsP W 0 0) ∨ ∃ a e, UsE W a e ∧ xs = rst W val a e
  c0 : UsP W 0 0 → val 0 0 ∈ L
  co : ∀ a e, UsE W a e → rst W val a e ∈ L
section
variable {W : Web} {den : Int} {pr : List Int} {h : Nat → Int → Int} {val : Nat → Int → List Int}
theorem val_len (hv : ∀ a p, FinP W a p → RV W a p (val a p)) {a : Nat} {p : Int} (h : FinP W a p) : (val a p).length = W.lb.toNat + 1 := (hv a p h).len
theorem rst_len (hv : ∀ a p, FinP W a p → RV W a p (val a p)) {a : Nat} {e : Ed} (u : UsE W a e) : (rst W val a e).length = W.lb.toNat + 1 := by
  obtain ⟨nt, h1, h2, h3, h4⟩ := u
  have l1 := val_len hv h3.fin
  have l2 := val_len hv h4.1
  unfold rst
  cases hc : e.c with
  | none =>
    show (List.zipWith _ (List.zipWith _ (val a e.p) (own W.lb e)) (val a e.t)).length = _
    rw [List.length_zipWith, List.length_zipWith, own_len, l1, l2]
    omega
  | some c =>
    have l3 := val_len hv (h4.2 c hc)
    show (List.zipWith _ (List.zipWith _ (List.zipWith _ (val a e.p) (own W.lb e)) (val c.toNat 0)) (val a e.t)).length = _
    rw [List.length_zipWith, List.length_zipWith, List.length_zipWith, own_len, l1, l2, l3]
    omega
theorem wor_rst (o : OkW W) (hp : pr.length = W.lb.toNat) (hv : ∀ a p, FinP W a p → RV W a p (val a p)) {a : Nat} {e : Ed} (u : UsE W a e) :
    wor den pr (rst W val a e) = wor den pr (val a e.p) - cst den pr e - wor den pr (val a e.t) - hC (fun a p => wor den pr (val a p)) e.c := by
  obtain ⟨nt, h1, h2, h3, h4⟩ := u
  have l1 := val_len hv h3.fin
  have l2 := val_len hv h4.1
  unfold rst
  have l4 : (zt (-1) (val a e.p) (own W.lb e)).length = W.lb.toNat + 1 := by
    show (List.zipWith _ (val a e.p) (own W.lb e)).length = _
    rw [List.length_zipWith, own_len, l1]
    omega
  have w4 : wor den pr (zt (-1) (val a e.p) (own W.lb e)) = wor den pr (val a e.p) - cst den pr e := by
    rw [wor_zt (by rw [l1, own_len]), wor_own (o.ed nt (List.mem_of_getElem? h1) e h2).k hp]
    omega
  cases hc : e.c with
  | none =>
    show wor den pr (zt (-1) (zt (-1) (val a e.p) (own W.lb e)) (val a e.t)) = _
    rw [wor_zt (by rw [l4, l2]), w4]
    show _ = _ - _ - _ - 0
    omega
  | some c =>
    have l3 := val_len hv (h4.2 c hc)
    have l5 : (zt (-1) (zt (-1) (val a e.p) (own W.lb e)) (val c.toNat 0)).length = W.lb.toNat + 1 := by
      show (List.zipWith _ (zt (-1) (val a e.p) (own W.lb e)) (val c.toNat 0)).length = _
      rw [List.length_zipWith, l4, l3]
      omega
    show wor den pr (zt (-1) (zt (-1) (zt (-1) (val a e.p) (own W.lb e)) (val c.toNat 0)) (val a e.t)) = _
    rw [wor_zt (by rw [l5, l2]), wor_zt (by rw [l4, l3]), w4]
    show _ = _ - _ - _ - wor den pr (val c.toNat 0)
    omega
/-- all rests are worth nothing just where there are heights -/
theorem RsOk.zero (o : OkW W) (hp : pr.length = W.lb.toNat) (hv : ∀ a p, FinP W a p → RV W a p (val a p)) {L : List (List Int)} (R : RsOk W val L) (P : Pot W (cst den pr) h) : ∀ xs ∈ L, wor den pr xs = 0 := by
  intro xs hx
  rcases R.so xs hx with ⟨rfl, hu⟩ | ⟨a, e, u, rfl⟩
  · rw [(hv 0 0 hu.fin).wor o hp P hu, P.st hu]
  · rw [wor_rst o hp hv u]
    obtain ⟨nt, h1, h2, h3, h4⟩ := u
    rw [(hv a e.p h3.fin).wor o hp P h3, (hv a e.t h4.1).wor o hp P (.goal h1 h2 h3 h4), P.ed a nt e h1 h2 h3 h4]
    have : hC (fun a p => wor den pr (val a p)) e.c = hC h e.c := by
      cases hc : e.c with
      | none => rfl
      | some c => exact (hv c.toNat 0 (h4.2 c hc)).wor o hp P (.call h1 h2 h3 h4 hc)
    rw [this]
    omega
theorem end_val (o : OkW W) {a : Nat} {nt : Int × List Ed} (hn : W.ns[a]? = some nt) {v : List Int} {p : Int} (r : RV W a p v) (e : p = nt.1 - 1) : v = zer W := by
  cases r with
  | end_ _ => rfl
  | @step _ nt' ed xc xt h he ht hc h0 =>
    obtain rfl := Option.some.inj (hn.symm.trans h)
    have := (o.ed nt (List.mem_of_getElem? hn) ed he).p
    omega
theorem RsOk.pot (o : OkW W) (hp : pr.length = W.lb.toNat) (hv : ∀ a p, FinP W a p → RV W a p (val a p)) {L : List (List Int)} (R : RsOk W val L) (z : ∀ xs ∈ L, wor den pr xs = 0) : Pot W (cst den pr) (fun a p => wor den pr (val a p)) := by
  refine ⟨fun a nt hn hu => ?_, fun hu => z _ (R.c0 hu), fun a nt e h1 h2 h3 h4 => ?_⟩
  · show wor den pr (val a (nt.1 - 1)) = 0
    rw [end_val o hn (hv a _ hu.fin) rfl, wor_zer]
  · have u : UsE W a e := ⟨nt, h1, h2, h3, h4⟩
    have := z _ (R.co a e u)
    rw [wor_rst o hp hv u] at this
    show wor den pr (val a e.p) = cst den pr e + wor den pr (val a e.t) + _
    omega
end
end K67

set_option Elab.async false
set_option linter.all false
set_option pp.maxSteps 900
set_option maxRecDepth 100000
set_option maxHeartbeats 4000000
namespace K67
open PySem PySem.Spec PyProof.Rows L2
open PySem.Builtin.SmallTypes (nextOf ownedTupleIsFree ownedTupleHandOut)
/-! ### zip of a tuple and a list -/
/-- an iterator at `it` over what lies at `l`, told by the sign `N` -/
structure Stp (prog : Program) (w : World) (it l : Addr) (items : Array Value) (N : Heap → Nat → Prop) : Prop where
  ext : ∀ {g g' : Heap} {c : Addr} {k : Nat}, Heap.ExtBut c g g' → it ≠ c → l ≠ c → N g k → N g' k
  lt : ∀ {g : Heap} {k : Nat}, N g k → it < g.objs.size
  item : ∀ {A : Around} {E : Value → Shared → Prop} {s : Shared} {k : Nat} {v : Value} {Q : Value → Shared → Prop}, N s.heap k → items[k]? = some v → (∀ g, N g (k + 1) → Heap.SameBut it s.heap g → Q v { s with heap := g }) → wpAny (model prog w) A (nextOf (.ref it)) Q E s
  stop : ∀ {A : Around} {E : Value → Shared → Prop} {s : Shared} {k : Nat} {Q : Value → Shared → Prop}, A.handled = none → N s.heap k → items[k]? = none →
    (∀ g e, Heap.ExtBut it s.heap g → (∃ o, g.get? e = some o ∧ o.cls = .type "StopIteration") → E (.ref e) { s with heap := g }) → wpAny (model prog w) A (nextOf (.ref it)) Q E s
theorem stp_tup {prog : Program} {w : World} {it l : Addr} {items : Array Value} : Stp prog w it l items (fun g k => g.IsTupleIter it l k ∧ g.IsTuple l items) :=
  ⟨fun x a b h => ⟨h.1.extBut x a, h.2.extBut x b⟩, fun h => by
    obtain ⟨⟨_, e, _⟩, _⟩ := h
    exact Heap.lt_size e, fun {A E s k v Q} h hv q => by
    obtain ⟨h1, h2⟩ := h
    by_cases hil : it = l
    · subst hil
      obtain ⟨_, e1, c1, _⟩ := h1
      obtain ⟨_, e2, c2, _⟩ := h2
      obtain rfl := Option.some.inj (e1.symm.trans e2)
      rw [c1] at c2
      exact absurd c2 (by simp)
    · exact RZ.nextOf_tuple_item h1 h2 hv fun g g1 g2 => q g ⟨g1, h2.extBut g2.extBut (Ne.symm hil)⟩ g2, fun {A E s k Q} hh h hv q => RZ.nextOf_tuple_end hh h.1 h.2 hv q⟩
theorem stp_lst {prog : Program} {w : World} {it l : Addr} {items : Array Value} : Stp prog w it l items (fun g k => g.IsListIter it l k ∧ g.IsList l items) :=
  ⟨fun x a b h => ⟨h.1.extBut x a, h.2.extBut x b⟩, fun h => by
    obtain ⟨⟨_, e, _⟩, _⟩ := h
    exact Heap.lt_size e, fun {A E s k v Q} h hv q => by
    obtain ⟨h1, h2⟩ := h
    by_cases hil : it = l
    · subst hil
      obtain ⟨_, e1, c1, _⟩ := h1
      obtain ⟨_, e2, c2, _⟩ := h2
      obtain rfl := Option.some.inj (e1.symm.trans e2)
      rw [c1] at c2
      exact absurd c2 (by simp)
    · exact wpAny_nextOf_list_item h1 h2 hv fun g g1 g2 => q g ⟨g1, h2.extBut g2.extBut (Ne.symm hil)⟩ g2, fun {A E s k Q} hh h hv q => wpAny_nextOf_list_end hh h.1 h.2 hv q⟩
section
variable {prog : Program} {w : World} {A : Around} {E : Value → Shared → Prop} {s : Shared} {zz ti tn it jt l m : Addr} {ki kj : Nat} {us vs : Array Value} {N M : Heap → Nat → Prop}
theorem mix_item {x y a b : Value} {Q : Value → Shared → Prop} (D : ZipApart zz ti tn it jt l m) (S : Stp prog w it l us N) (R : Stp prog w jt m vs M)
    (z0 : IsZip s.heap zz ti tn .none) (z1 : IsPair s.heap ti (.ref it) (.ref jt)) (z2 : IsPair s.heap tn a b) (n1 : N s.heap ki) (m1 : M s.heap kj) (ex : us[ki]? = some x) (ey : vs[kj]? = some y)
    (done : ∀ g, IsZip g zz ti tn (rawInt s.heap.objs.size) → IsPair g tn x y → N g (ki + 1) → M g (kj + 1) → IsPair g s.heap.objs.size x y → g.objs.size = s.heap.objs.size + 1 →
      (∀ c o, c ≠ zz → c ≠ tn → c ≠ it → c ≠ jt → s.heap.get? c = some o → g.get? c = some o) → Q (.ref s.heap.objs.size) { s with heap := g }) :
    wpAny (model prog w) A (Builtin.«zip.__next__» ⟨[.ref zz], []⟩) (fun r t => ∃ v, r = .done (.ret v) ∧ Q v t) E s := by
  show wpAny _ _ (field (.ref zz) 2 >>= _) _ _ _
  refine wpAny_bind (wpAny_field z0 rfl (x := .bool false) rfl ?_)
  show wpAny _ _ (field (.ref zz) 3 >>= _) _ _ _
  refine wpAny_bind (wpAny_field z0 rfl (x := .ref ti) rfl (wpAny_bind (wpAny_seqItems z1 rfl ?_)))
  show wpAny _ _ (ownedTupleIsFree (.ref zz) >>= _) _ _ _
  unfold ownedTupleIsFree
  refine wpAny_bind (wpAny_bind (wpAny_field z0 rfl (x := .none) rfl (wpAny_pure ?_)))
  simp only [if_true]
  refine wpAny_bind (wpAny_rule (wpAny_bind (wpAny_field z0 rfl (x := .ref tn) rfl (wpAny_bind (wpAny_setField_rec z0 (by simp) fun g1 (p1 : IsZip g1 zz ti tn .ellipsis) k1 => wpAny_bind ?_)))))
  simp only [List.zipIdx_cons, List.zipIdx_nil, List.forIn_cons, List.forIn_nil]
  refine wpAny_bind (wpAny_bind (wpAny_onRaise ?_))
  show wpAny _ _ (nextOf (.ref it) >>= _) _ _ _
  refine wpAny_bind (S.item (S.ext k1.extBut D.i1z D.l1z n1) ex fun g2 n2 k2 => wpAny_pure ?_)
  have p2 : IsPair g2 tn a b := k2.extBut _ _ D.TOi1 (k1.extBut _ _ D.TOz z2)
  refine wpAny_bind (wpAny_seqItems p2 rfl (wpAny_bind (wpAny_updateSeq_pair p2 fun g3 (p3 : IsPair g3 tn x b) k3 => wpAny_bind (wpAny_letGo (wpAny_pure ?_)))))
  refine wpAny_bind (wpAny_bind (wpAny_onRaise ?_))
  show wpAny _ _ (nextOf (.ref jt) >>= _) _ _ _
  have m3 : M g3 kj := R.ext k3.extBut D.TOi2.symm D.l2TO (R.ext k2.extBut D.i12.symm D.l2i1 (R.ext k1.extBut D.i2z D.l2z m1))
  refine wpAny_bind (R.item m3 ey fun g4 m4 k4 => wpAny_pure ?_)
  have p4 : IsPair g4 tn x b := k4.extBut _ _ D.TOi2 p3
  refine wpAny_bind (wpAny_seqItems p4 rfl (wpAny_bind (wpAny_updateSeq_pair p4 fun g5 (p5 : IsPair g5 tn x y) k5 => wpAny_bind (wpAny_letGo (wpAny_pure (wpAny_pure ?_))))))
  refine wpAny_bind (wpAny_seqItems p5 rfl (wpAny_bind (wpAny_newTuple ?_)))
  have sz : g5.objs.size = s.heap.objs.size := by rw [k5.1, k4.1, k3.1, k2.1, k1.1]
  have q5 : IsZip g5 zz ti tn .ellipsis := k5.extBut _ _ D.TOz.symm (k4.extBut _ _ D.i2z.symm (k3.extBut _ _ D.TOz.symm (k2.extBut _ _ D.i1z.symm p1)))
  have all5 : ∀ c o, c ≠ zz → c ≠ tn → c ≠ it → c ≠ jt → s.heap.get? c = some o → g5.get? c = some o := fun c o a1 a2 a3 a4 e => k5.extBut _ _ a2 (k4.extBut _ _ a4 (k3.extBut _ _ a2 (k2.extBut _ _ a3 (k1.extBut _ _ a1 e))))
  have n5 : N g5 (ki + 1) := S.ext k5.extBut D.TOi1.symm D.l1TO (S.ext k4.extBut D.i12 D.l1i2 (S.ext k3.extBut D.TOi1.symm D.l1TO n2))
  have m5 : M g5 (kj + 1) := R.ext k5.extBut D.TOi2.symm D.l2TO m4
  have zlt : zz < g5.objs.size := Heap.lt_size q5
  show wpAny _ _ (ownedTupleHandOut (.ref zz) (.ref g5.objs.size) >>= _) _ _ _
  unfold ownedTupleHandOut
  have q6 : IsZip (g5.push { cls := .type "tuple", data := .seq #[x, y] }) zz ti tn .ellipsis := Heap.get?_push_of_some _ q5
  refine wpAny_bind (wpAny_bind (wpAny_setField_rec q6 (by simp) fun g7 (p7 : IsZip g7 zz ti tn (rawInt g5.objs.size)) k7 => ?_))
  refine wpAny_setField_rec p7 (by simp) fun g8 (p8 : IsZip g8 zz ti tn (rawInt g5.objs.size)) k8 => ?_
  have ext8 : Heap.ExtBut zz g5 g8 := fun c o a1 e => k8.extBut _ _ a1 (k7.extBut _ _ a1 (Heap.get?_push_of_some _ e))
  have new8 : IsPair g8 g5.objs.size x y := k8.extBut _ _ (Nat.ne_of_gt zlt) (k7.extBut _ _ (Nat.ne_of_gt zlt) (Heap.get?_push_size _ rfl))
  have sz8 : g8.objs.size = g5.objs.size + 1 := by rw [k8.1, k7.1, Heap.size_push]
  rw [sz] at p8 new8 sz8
  refine wpAny_pure ⟨_, rfl, ?_⟩
  show Q (.ref g5.objs.size) _
  rw [sz]
  exact done g8 p8 (ext8 _ _ D.TOz p5) (S.ext ext8 D.i1z D.l1z n5) (R.ext ext8 D.i2z D.l2z m5) new8 sz8 fun c o a1 a2 a3 a4 e => ext8 c o a1 (all5 c o a1 a2 a3 a4 e)
theorem mix_stop {a b : Value} {Q : Fin → Shared → Prop} (hh : A.handled = none) (D : ZipApart zz ti tn it jt l m) (S : Stp prog w it l us N) (R : Stp prog w jt m vs M)
    (z0 : IsZip s.heap zz ti tn .none) (z1 : IsPair s.heap ti (.ref it) (.ref jt)) (z2 : IsPair s.heap tn a b) (n1 : N s.heap ki) (m1 : M s.heap kj) (fin : us[ki]? = none ∨ vs[kj]? = none)
    (done : ∀ g e, (∀ c o, c ≠ zz → c ≠ tn → c ≠ it → c ≠ jt → s.heap.get? c = some o → g.get? c = some o) → (∃ o, g.get? e = some o ∧ o.cls = .type "StopIteration") → E (.ref e) { s with heap := g }) :
    wpAny (model prog w) A (Builtin.«zip.__next__» ⟨[.ref zz], []⟩) Q E s := by
  show wpAny _ _ (field (.ref zz) 2 >>= _) _ _ _
  refine wpAny_bind (wpAny_field z0 rfl (x := .bool false) rfl ?_)
  show wpAny _ _ (field (.ref zz) 3 >>= _) _ _ _
  refine wpAny_bind (wpAny_field z0 rfl (x := .ref ti) rfl (wpAny_bind (wpAny_seqItems z1 rfl ?_)))
  show wpAny _ _ (ownedTupleIsFree (.ref zz) >>= _) _ _ _
  unfold ownedTupleIsFree
  refine wpAny_bind (wpAny_bind (wpAny_field z0 rfl (x := .none) rfl (wpAny_pure ?_)))
  simp only [if_true]
  refine wpAny_bind (wpAny_rule (wpAny_bind (wpAny_field z0 rfl (x := .ref tn) rfl (wpAny_bind (wpAny_setField_rec z0 (by simp) fun g1 (p1 : IsZip g1 zz ti tn .ellipsis) k1 => wpAny_bind ?_)))))
  simp only [List.zipIdx_cons, List.zipIdx_nil, List.forIn_cons, List.forIn_nil]
  refine wpAny_bind (wpAny_bind (wpAny_onRaise ?_))
  show wpAny _ _ (nextOf (.ref it) >>= _) _ _ _
  have n1' := S.ext k1.extBut D.i1z D.l1z n1
  have out : ∀ (g : Heap) (e : Addr), Heap.ExtBut it g1 g ∨ (∃ ga gb, Heap.ExtBut it g1 ga ∧ Heap.ExtBut tn ga gb ∧ Heap.ExtBut jt gb g) → (∃ o, g.get? e = some o ∧ o.cls = .type "StopIteration") → IsZip g zz ti tn .ellipsis ∧ e ≠ zz ∧ ∀ c o, c ≠ zz → c ≠ tn → c ≠ it → c ≠ jt → s.heap.get? c = some o → g.get? c = some o := by
    rintro g e hg ⟨o, ho, hc⟩
    have hz : IsZip g zz ti tn .ellipsis := by
      rcases hg with hg | ⟨ga, gb, h1, h2, h3⟩
      · exact hg _ _ D.i1z.symm p1
      · exact h3 _ _ D.i2z.symm (h2 _ _ D.TOz.symm (h1 _ _ D.i1z.symm p1))
    refine ⟨hz, fun q => ?_, fun c o' a1 a2 a3 a4 e' => ?_⟩
    · rw [q, hz] at ho
      obtain rfl := Option.some.inj ho
      simp at hc
    · have e1 := k1.extBut _ _ a1 e'
      rcases hg with hg | ⟨ga, gb, h1, h2, h3⟩
      · exact hg _ _ a3 e1
      · exact h3 _ _ a4 (h2 _ _ a2 (h1 _ _ a3 e1))
  cases hx : us[ki]? with
  | none =>
    refine wpAny_bind (S.stop hh n1' hx fun g2 e k2 he => ?_)
    obtain ⟨hz, hne, hall⟩ := out g2 e (.inl k2) he
    obtain ⟨o, ho, hc⟩ := he
    exact wpAny_setField_rec hz (by simp) fun g3 _ k3 => done g3 e (fun c o a1 a2 a3 a4 q => k3.extBut _ _ a1 (hall c o a1 a2 a3 a4 q)) ⟨o, k3.extBut _ _ hne ho, hc⟩
  | some x =>
    have hy : vs[kj]? = none := fin.resolve_left (by rw [hx]; exact fun q => nomatch q)
    refine wpAny_bind (S.item n1' hx fun g2 n2 k2 => wpAny_pure ?_)
    have p2 : IsPair g2 tn a b := k2.extBut _ _ D.TOi1 (k1.extBut _ _ D.TOz z2)
    refine wpAny_bind (wpAny_seqItems p2 rfl (wpAny_bind (wpAny_updateSeq_pair p2 fun g3 _ k3 => wpAny_bind (wpAny_letGo (wpAny_pure ?_)))))
    refine wpAny_bind (wpAny_bind (wpAny_onRaise ?_))
    show wpAny _ _ (nextOf (.ref jt) >>= _) _ _ _
    have m3 : M g3 kj := R.ext k3.extBut D.TOi2.symm D.l2TO (R.ext k2.extBut D.i12.symm D.l2i1 (R.ext k1.extBut D.i2z D.l2z m1))
    refine wpAny_bind (R.stop hh m3 hy fun g4 e k4 he => ?_)
    obtain ⟨hz, hne, hall⟩ := out g4 e (.inr ⟨g2, g3, k2.extBut, k3.extBut, k4⟩) he
    obtain ⟨o, ho, hc⟩ := he
    exact wpAny_setField_rec hz (by simp) fun g5 _ k5 => done g5 e (fun c o a1 a2 a3 a4 q => k5.extBut _ _ a1 (hall c o a1 a2 a3 a4 q)) ⟨o, k5.extBut _ _ hne ho, hc⟩
theorem next_item {x y a b : Value} {Q : Option Value → Shared → Prop} (D : ZipApart zz ti tn it jt l m) (S : Stp prog w it l us N) (R : Stp prog w jt m vs M)
    (z0 : IsZip s.heap zz ti tn .none) (z1 : IsPair s.heap ti (.ref it) (.ref jt)) (z2 : IsPair s.heap tn a b) (n1 : N s.heap ki) (m1 : M s.heap kj) (ex : us[ki]? = some x) (ey : vs[kj]? = some y)
    (done : ∀ g, IsZip g zz ti tn (rawInt s.heap.objs.size) → IsPair g tn x y → N g (ki + 1) → M g (kj + 1) → IsPair g s.heap.objs.size x y → g.objs.size = s.heap.objs.size + 1 →
      (∀ c o, c ≠ zz → c ≠ tn → c ≠ it → c ≠ jt → s.heap.get? c = some o → g.get? c = some o) → Q (some (.ref s.heap.objs.size)) { s with heap := g }) :
    wpAny (model prog w) A (pyNext (.ref zz)) Q E s := by
  have ty : s.TypeIs (.ref zz) "zip" := ⟨_, z0, rfl⟩
  unfold pyNext
  refine wpAny_bind (wpAny_attempt (wpAny_callSpecial?_slot (name := Str.ofString "__next__") ty F.slot_zip_next (wpAny_call_entry F.slot_zip_next ty F.entry_zip_next (mix_item D S R z0 z1 z2 n1 m1 ex ey fun g a1 a2 a3 a4 a5 a6 a7 => ?_) (F.args_zip_next_1 _))))
  exact wpAny_pure (done g a1 a2 a3 a4 a5 a6 a7)
theorem next_stop {a b : Value} {Q : Option Value → Shared → Prop} (hh : A.handled = none) (D : ZipApart zz ti tn it jt l m) (S : Stp prog w it l us N) (R : Stp prog w jt m vs M)
    (z0 : IsZip s.heap zz ti tn .none) (z1 : IsPair s.heap ti (.ref it) (.ref jt)) (z2 : IsPair s.heap tn a b) (n1 : N s.heap ki) (m1 : M s.heap kj) (fin : us[ki]? = none ∨ vs[kj]? = none)
    (done : ∀ g, (∀ c o, c ≠ zz → c ≠ tn → c ≠ it → c ≠ jt → s.heap.get? c = some o → g.get? c = some o) → Q none { s with heap := g }) : wpAny (model prog w) A (pyNext (.ref zz)) Q E s := by
  have ty : s.TypeIs (.ref zz) "zip" := ⟨_, z0, rfl⟩
  unfold pyNext
  refine wpAny_bind (wpAny_attempt (wpAny_callSpecial?_slot (name := Str.ofString "__next__") ty F.slot_zip_next (wpAny_call_entry F.slot_zip_next ty F.entry_zip_next (mix_stop hh D S R z0 z1 z2 n1 m1 fin fun g e all he => ?_) (F.args_zip_next_1 _))))
  obtain ⟨o, ho, hc⟩ := he
  exact wpAny_bind (wpAny_isInstance (T := "StopIteration") (b := true) ⟨o, ho, hc⟩ isSubtype_stop (wpAny_pure (done _ all)))
end
/-! #### the new zip -/
def it1 (g : Heap) (l : Addr) : Heap := g.push { cls := .type "tuple_iterator", data := .fields #[.ref l, .int 0 0] }
def it2 (g : Heap) (l m : Addr) : Heap := (it1 g l).push { cls := .type "list_iterator", data := .fields #[.ref m, .int 0 0] }
def it3 (g : Heap) (l m : Addr) : Heap := (it2 g l m).push { cls := .type "tuple", data := .seq #[.ref g.objs.size, .ref (it1 g l).objs.size] }
def it4 (g : Heap) (l m : Addr) : Heap := (it3 g l m).push { cls := .type "tuple", data := .seq #[.none, .none] }
def it5 (g : Heap) (l m : Addr) : Heap := (it4 g l m).push { cls := .type "zip", data := .fields #[.none, .bool false, .bool false, .ref (it2 g l m).objs.size, .ref (it3 g l m).objs.size] }
theorem mix_made (l m : Addr) (us vs : Array Value) :
    Meets (Builtin.«zip.__new__» ⟨[.type "zip", .ref l, .ref m], []⟩) (fun _ R s => s.heap.IsTuple l us ∧ s.heap.IsList m vs ∧ R (.ok (.ret (.ref (it4 s.heap l m).objs.size))) { s with heap := it5 s.heap l m }) :=
  .of_wp fun prog w A R s q => by
    obtain ⟨g, gl, dd, tk, os⟩ := s
    obtain ⟨q1, q2, q3⟩ := q
    have sub := sub_zip
    have L1 : Heap.IsTuple (Shared.heap ⟨g, gl, dd, tk, os⟩) l us := q1
    have L2 : Heap.IsList (Shared.heap ⟨g.push { cls := .type "tuple_iterator", data := .fields #[.ref l, .int 0 0] }, gl, dd, tk, os⟩) m vs := Heap.IsList.push q2 _
    wp_walk using wpAny_pyIter_tuple L1, wpAny_pyIter_list L2
    exact ⟨_, rfl, q3⟩
theorem mix_call {prog : Program} {w : World} {A : Around} {E : Value → Shared → Prop} {s : Shared} {l m : Addr} {us vs : Array Value} {Q : Value → Shared → Prop} (q1 : s.heap.IsTuple l us) (q2 : s.heap.IsList m vs)
    (done : ∀ g, IsZip g (s.heap.objs.size + 4) (s.heap.objs.size + 2) (s.heap.objs.size + 3) .none → IsPair g (s.heap.objs.size + 2) (.ref s.heap.objs.size) (.ref (s.heap.objs.size + 1)) →
      IsPair g (s.heap.objs.size + 3) .none .none → g.IsTupleIter s.heap.objs.size l 0 → g.IsListIter (s.heap.objs.size + 1) m 0 → (∀ c o, s.heap.get? c = some o → g.get? c = some o) → Q (.ref (s.heap.objs.size + 4)) { s with heap := g }) :
    wpAny (model prog w) A (call (.type "zip") [.ref l, .ref m]) Q E s := by
  refine callType_new F.called_zip (by decide) (F.typeCall_zip_2 _ _) (F.newCall_zip_2 _ _) (fun obj => F.args_object_init_3 obj _ _) F.entry_zip_new (mix_made l m us vs) ⟨q1, q2, ?_⟩
  generalize hn : s.heap.objs.size = n
  have e1 : (it1 s.heap l).objs.size = n + 1 := by rw [← hn]; exact Heap.size_push ..
  have e2 : (it2 s.heap l m).objs.size = n + 2 := by rw [show n + 2 = (n + 1) + 1 from rfl, ← e1]; exact Heap.size_push ..
  have e3 : (it3 s.heap l m).objs.size = n + 3 := by rw [show n + 3 = (n + 2) + 1 from rfl, ← e2]; exact Heap.size_push ..
  have e4 : (it4 s.heap l m).objs.size = n + 4 := by rw [show n + 4 = (n + 3) + 1 from rfl, ← e3]; exact Heap.size_push ..
  have up1 : ∀ {c o}, (it1 s.heap l).get? c = some o → (it5 s.heap l m).get? c = some o := fun e => Heap.get?_push_of_some _ (Heap.get?_push_of_some _ (Heap.get?_push_of_some _ (Heap.get?_push_of_some _ e)))
  have up2 : ∀ {c o}, (it2 s.heap l m).get? c = some o → (it5 s.heap l m).get? c = some o := fun e => Heap.get?_push_of_some _ (Heap.get?_push_of_some _ (Heap.get?_push_of_some _ e))
  have up3 : ∀ {c o}, (it3 s.heap l m).get? c = some o → (it5 s.heap l m).get? c = some o := fun e => Heap.get?_push_of_some _ (Heap.get?_push_of_some _ e)
  have f1 : (it5 s.heap l m).get? n = some { cls := .type "tuple_iterator", data := .fields #[.ref l, .int 0 0] } := up1 (by rw [← hn]; exact Heap.get?_push_size _ rfl)
  have f2 : (it5 s.heap l m).get? (n + 1) = some { cls := .type "list_iterator", data := .fields #[.ref m, .int 0 0] } := up2 (by rw [← e1]; exact Heap.get?_push_size _ rfl)
  have f3 : (it5 s.heap l m).get? (n + 2) = some { cls := .type "tuple", data := .seq #[.ref s.heap.objs.size, .ref (it1 s.heap l).objs.size] } := up3 (by rw [← e2]; exact Heap.get?_push_size _ rfl)
  have f4 : (it5 s.heap l m).get? (n + 3) = some { cls := .type "tuple", data := .seq #[.none, .none] } := Heap.get?_push_of_some _ (by rw [← e3]; exact Heap.get?_push_size _ rfl)
  have f5 : (it5 s.heap l m).get? (n + 4) = some { cls := .type "zip", data := .fields #[.none, .bool false, .bool false, .ref (it2 s.heap l m).objs.size, .ref (it3 s.heap l m).objs.size] } := by rw [← e4]; exact Heap.get?_push_size _ rfl
  show _ ∧ _
  rw [hn, e1] at f3
  rw [e2, e3] at f5
  rw [e4]
  rw [hn] at done
  exact ⟨⟨_, f5, rfl⟩, done _ f5 f3 f4 ⟨_, f1, rfl, rfl⟩ ⟨_, f2, rfl, rfl⟩ fun c o e => up1 (Heap.get?_push_of_some _ e)⟩
/-! #### the turns -/
def ItM (K : PySem.W.Frag) (a b : Addr) : It :=
  ⟨fun i H => ∃ (xs ys : List V) (x y : V), SqT K H a xs ∧ SqL K H b ys ∧ xs[i]? = some x ∧ ys[i]? = some y,
    fun i H v H' => ∃ T x y, v = .ref T ∧ H T = none ∧ H' = upd H T (.tup [x, y]) ∧ (∀ xs, SqT K H a xs → xs[i]? = some x) ∧ ∀ ys, SqL K H b ys → ys[i]? = some y,
    fun i H => ∃ xs ys : List V, SqT K H a xs ∧ SqL K H b ys ∧ (xs.length ≤ i ∨ ys.length ≤ i)⟩
theorem five {P : Addr → Prop} {z TI TO i1 i2 : Addr} (h0 : P z) (h1 : P TI) (h2 : P TO) (h3 : P i1) (h4 : P i2) : ∀ c ∈ [z, TI, TO, i1, i2], P c := fun c hc => by
  rcases List.mem_cons.mp hc with rfl | hc
  · exact h0
  rcases List.mem_cons.mp hc with rfl | hc
  · exact h1
  rcases List.mem_cons.mp hc with rfl | hc
  · exact h2
  rcases List.mem_cons.mp hc with rfl | hc
  · exact h3
  rw [List.mem_singleton.mp hc]
  exact h4
theorem turn_mix {P : Program} {w : World} {K : PySem.W.Frag} {elts : List Expr} {kk : Nat} {tpos : Pos} {a b zz ti tn it jt : Addr} (D : ZipApart zz ti tn it jt a b) :
    Turn P w K (.Tuple elts kk tpos) (ItM K a b) [zz, ti, tn, it, jt] zz (fun i g => IsZip g zz ti tn .none ∧ IsPair g ti (.ref it) (.ref jt) ∧ (∃ x y, IsPair g tn x y) ∧ g.IsTupleIter it a i ∧ g.IsListIter jt b i) where
  mem := List.mem_cons_self
  obj := fun i g st => by
    obtain ⟨s0, s1, ⟨x, y, s2⟩, ⟨o1, e1, _, d1⟩, ⟨o2, e2, _, d2⟩⟩ := st
    exact five ⟨_, s0, fun v q => nomatch q⟩ ⟨_, s1, fun v q => nomatch q⟩ ⟨_, s2, fun v q => nomatch q⟩ ⟨o1, e1, fun v q => by rw [d1] at q; cases q⟩ ⟨o2, e2, fun v q => by rw [d2] at q; cases q⟩
  keep := fun i g g' st k => by
    obtain ⟨s0, s1, ⟨x, y, s2⟩, s3, s4⟩ := st
    exact ⟨k zz (by simp) _ s0, k ti (by simp) _ s1, ⟨x, y, k tn (by simp) _ s2⟩, s3.at fun o q => k it (by simp) o q, s4.at fun o q => k jt (by simp) o q⟩
  item := by
    intro X hP hw hK hc i pins s σ H E I hf st hg
    subst hP hw hK
    obtain ⟨s0, s1, ⟨x0, y0, s2⟩, s3, s4⟩ := st
    obtain ⟨xs, ys, x, y, qx, qy, ex, ey⟩ := hg
    obtain ⟨us, rv, p, _⟩ := I.tuple qx
    obtain ⟨vs, rv2, p2, _⟩ := I.list qy
    obtain ⟨u, hu, ru⟩ := rv.get ex
    obtain ⟨u2, hu2, ru2⟩ := rv2.get ey
    have zlt : zz < s.heap.objs.size := Heap.lt_size s0
    refine next_item D stp_tup stp_lst s0 s1 s2 ⟨s3, show s.heap.IsTuple a us.toArray from p⟩ ⟨s4, p2.isList⟩ (x := u) (y := u2) (by simpa using hu) (by simpa using hu2) fun g g0 g2 g3 g4 gN _ all => ?_
    refine ⟨_, rfl, wpAny_letOwnedTupleGo_zip (s := { s with heap := g }) g0 fun g' g0' sb => ?_⟩
    have at_ : ∀ {c o}, c ≠ zz → g.get? c = some o → g'.get? c = some o := fun hc e => (sb.2 _ hc).trans e
    have gN' := at_ (Nat.ne_of_gt zlt) gN
    have ch5 : ∀ {c : Addr}, c ∉ [zz, ti, tn, it, jt] → ∀ {o}, s.heap.get? c = some o → g'.get? c = some o := fun {c} hb {o} q =>
      at_ (fun e => hb (by simp [e])) (all c o (fun e => hb (by simp [e])) (fun e => hb (by simp [e])) (fun e => hb (by simp [e])) (fun e => hb (by simp [e])) q)
    have new : ObjOk X.prog X.w (upd H s.heap.objs.size (.tup [x, y])) g' s.heap.objs.size (.tup [x, y]) := ⟨by show 2 ≤ sizeLine; decide, [u, u2], .cons ru (.cons ru2 .nil), ⟨_, gN', rfl, _, rfl⟩⟩
    have J : Inv X pins σ (upd H s.heap.objs.size (.tup [x, y])) { s with heap := g' } := I.turnedNew (t' := s.toks) (ch := [zz, ti, tn, it, jt]) (fun c o hb q => ch5 hb q) hf (Nat.le_refl _) new
    refine ⟨.ref s.heap.objs.size, _, J, rfl, ⟨_, x, y, rfl, I.hok.fresh (Nat.le_refl _), rfl, fun l hl => by rw [I.tuple_inj hl qx]; exact ex, fun l hl => by rw [I.list_inj hl qy]; exact ey⟩, ⟨g0', ?_, ⟨u, u2, at_ D.TOz g2⟩, g3.1.at fun o q => at_ D.i1z q, g4.1.at fun o q => at_ D.i2z q⟩, ?_⟩
    · exact at_ D.TIz (all _ _ D.TIz D.TITO D.TIi1 D.TIi2 s1)
    · have lt : ∀ c ∈ [zz, ti, tn, it, jt], c < s.heap.objs.size := by
        obtain ⟨_, e1, _⟩ := s3
        obtain ⟨_, e2, _⟩ := s4
        exact five zlt (Heap.lt_size s1) (Heap.lt_size s2) (Heap.lt_size e1) (Heap.lt_size e2)
      intro c hcm
      rw [upd_ne (Nat.ne_of_lt (lt c hcm))]
      exact (hf c hcm).1
  done := by
    intro X hP hw hK hc i pins s σ H E I hf st hg
    subst hP hw hK
    obtain ⟨s0, s1, ⟨x0, y0, s2⟩, s3, s4⟩ := st
    obtain ⟨xs, ys, qx, qy, fin⟩ := hg
    obtain ⟨us, rv, p, _⟩ := I.tuple qx
    obtain ⟨vs, rv2, p2, _⟩ := I.list qy
    have l1 := rv.length
    have l2 := rv2.length
    have no : us.toArray[i]? = none ∨ vs.toArray[i]? = none := by
      rcases fin with q | q
      · exact .inl (by simp; omega)
      · exact .inr (by simp; omega)
    exact next_stop (I.ok.hd hc) D stp_tup stp_lst s0 s1 s2 ⟨s3, show s.heap.IsTuple a us.toArray from p⟩ ⟨s4, p2.isList⟩ no fun g all => ⟨rfl, I.turnedL (t' := s.toks) (ch := [zz, ti, tn, it, jt]) (fun c o hb q =>
      all c o (fun e => hb (by simp [e])) (fun e => hb (by simp [e])) (fun e => hb (by simp [e])) (fun e => hb (by simp [e])) q) hf⟩
  self := fun A i s Q E st h => wpAny_pyIter_zip st.1 h
/-- zip of a tuple or a list, and a list -/
def iZipM (K : PySem.W.Frag) (ta : TA) : TI := fun σ H R => ta σ H fun vs H1 => ∃ a b xs ys, vs = [.ref a, .ref b] ∧ ((SqT K H1 a xs ∧ SqL K H1 b ys ∧ R (ItM K a b) H1) ∨ (SqL K H1 a xs ∧ SqL K H1 b ys ∧ R (Itz K a b) H1))
theorem ge_five {n c : Nat} (h : c ∈ [n + 4, n + 2, n + 3, n, n + 1]) : n ≤ c := by
  simp only [List.mem_cons, List.not_mem_nil, or_false] at h
  omega
theorem pi_zipM {X : Cx} {e e2 : Expr} {ta : TA} {p pos tpos : Pos} {elts : List Expr} {kk : Nat} (hg : Gl X "zip") (hm : X.mg "zip" = none) (ha : PA X [e, e2] ta)
    (hs : starEach [e, e2] X.env = (false, eval e X.env) :: starEach [e2] X.env := by rfl) (hpl : (backTo pos (starEach [e2] X.env)).any (·.1) = false := by rfl) :
    PI X (.Tuple elts kk tpos) (.Call (.Name "zip" p) [e, e2] [] pos) (iZipM X.K ta) := by
  refine ⟨fun pins s σ H R I h => Call_ (ld_blt I hg hm PyProof.Rows.boot_zip (PyProof.Rows.callWith_type1 (thn (ha.run pos pins s σ H _ I h) fun us s1 ⟨vs, H1, J, r1, q1⟩ => ?_) hs hpl))⟩
  obtain ⟨a, b, xs, ys, rfl, q1⟩ := q1
  obtain ⟨u, v, rfl, ra, rb⟩ := vals2 r1
  cases ra
  cases rb
  have fr : ∀ c, c ∈ [s1.heap.objs.size + 4, s1.heap.objs.size + 2, s1.heap.objs.size + 3, s1.heap.objs.size, s1.heap.objs.size + 1] → FpOk X pins H1 c := fun c hc => J.fpOk (ge_five hc) (J.hok.fresh (ge_five hc))
  rcases q1 with ⟨qx, qy, q⟩ | ⟨qx, qy, q⟩
  · obtain ⟨us, rv, p1, _⟩ := J.tuple qx
    obtain ⟨vs, rv2, p2, _⟩ := J.list qy
    have la : a < s1.heap.objs.size := by
      obtain ⟨_, e, _⟩ := id p1
      exact Heap.lt_size e
    refine mix_call (show s1.heap.IsTuple a us.toArray from p1) p2.isList fun g g0 g1 g2 g3 g4 all => wpAny_pyIter_zip g0 ?_
    have J2 : Inv X pins σ H1 { s1 with heap := g } := J.kept (t' := s1.toks) all
    exact ⟨s1.heap.objs.size + 4, [s1.heap.objs.size + 4, s1.heap.objs.size + 2, s1.heap.objs.size + 3, s1.heap.objs.size, s1.heap.objs.size + 1], _, _, H1, rfl, J2, turn_mix (PySem.W.ktu_apart s1.heap.objs.size a b la p2.lt), ⟨g0, g1, ⟨_, _, g2⟩, g3, g4⟩, fr, q⟩
  · obtain ⟨us, rv, p1, _⟩ := J.list qx
    obtain ⟨vs, rv2, p2, _⟩ := J.list qy
    refine call_zip_2 p1.isList p2.isList fun g g0 g1 g2 g3 g4 _ all => wpAny_pyIter_zip g0 ?_
    have J2 : Inv X pins σ H1 { s1 with heap := g } := J.kept (t' := s1.toks) all
    exact ⟨s1.heap.objs.size + 4, [s1.heap.objs.size + 4, s1.heap.objs.size + 2, s1.heap.objs.size + 3, s1.heap.objs.size, s1.heap.objs.size + 1], _, _, H1, rfl, J2, turn_zip (PySem.W.ktu_apart s1.heap.objs.size a b p1.lt p2.lt), ⟨g0, g1, ⟨_, _, g2⟩, g3, g4⟩, fr, q⟩
theorem walk_mix {K : PySem.W.Frag} {a b : Addr} {xs ys : List V} {n : Nat} (hn : n = min xs.length ys.length) : Walk (ItM K a b) n (fun H => SqT K H a xs ∧ SqL K H b ys) (fun i H v H' => ∃ T x y, v = .ref T ∧ H T = none ∧ H' = upd H T (.tup [x, y]) ∧ xs[i]? = some x ∧ ys[i]? = some y) := by
  subst hn
  refine ⟨fun i _ hi q => ?_, fun _ q => ⟨xs, ys, q.1, q.2, by omega⟩, fun i H v H' _ q y => ?_⟩
  · have h1 : i < xs.length := by omega
    have h2 : i < ys.length := by omega
    exact ⟨xs, ys, xs[i], ys[i], q.1, q.2, List.getElem?_eq_getElem h1, List.getElem?_eq_getElem h2⟩
  · obtain ⟨T, x, z, h1, h2, h3, h4, h5⟩ := y
    exact ⟨T, x, z, h1, h2, h3, h4 xs q.1, h5 ys q.2⟩
end K67

set_option Elab.async false
set_option linter.all false
set_option pp.maxSteps 900
set_option maxRecDepth 100000
set_option maxHeartbeats 4000000
namespace K67
open PySem PySem.Spec PyProof.Rows L2
open TL (tl)
abbrev sWo : Stmt := top 48
/-! ### the law's worth and its rests -/
def PrA (H : Hp) (c : Addr) (pr : List Int) : Prop := H c = some (.tup (pr.map V.int)) ∨ H c = some (.lst (pr.map V.int))
def PrB (pr : List Int) : Prop := ∀ p ∈ pr, -(2 ^ 64) < p ∧ p < 2 ^ 64
theorem PrA.same {H H' : Hp} {c : Addr} {pr : List Int} (h : PrA H c pr) (s : Same H H') : PrA H' c pr := h.imp (s _ _) (s _ _)
def spWo : Sp := fun vs H Q _ => ∃ (r c : Addr) (den : Int) (xs pr : List Int), vs = [.ref r, .int den, .ref c] ∧ H r = some (.lst (xs.map V.int)) ∧ PrA H c pr ∧ PrB pr ∧ xs ≠ [] ∧ xs.length ≤ 5000 ∧ -(2 ^ 64) < den ∧ den < 2 ^ 64 ∧
  ∀ H', Same H H' → Q (.int (wor den pr xs)) H'
theorem last_at {xs : List Int} (h : xs ≠ []) : atI (xs.map V.int) (-1) = some (.int (xs.getLast?.getD 0)) := by
  obtain ⟨l, x, rfl⟩ : ∃ l x, xs = l ++ [x] := ⟨xs.dropLast, xs.getLast h, (List.dropLast_concat_getLast h).symm⟩
  rw [List.getLast?_concat, List.map_append]
  unfold atI
  have : ixN (l.map V.int ++ [x].map V.int).length (-1) = some l.length := by
    rw [List.length_append, List.length_map]
    show ixN (l.length + 1) (-1) = _
    unfold ixN
    rw [if_neg (by omega), if_pos (by omega)]
    congr 1
    omega
  rw [this]
  show (l.map V.int ++ [x].map V.int)[l.length]? = _
  rw [List.getElem?_append_right (by rw [List.length_map]; omega), List.length_map, Nat.sub_self]
  rfl
section
variable {P : Program} {w : World} {K : PySem.W.Frag} {mg : Str → Option Value} {base : Heap}
theorem scWo : FnScope ["rest", "den", "costs", "price", "count"] ["rest", "den", "costs"] (defScope sWo) := ⟨rfl, rfl, rfl, by decide +kernel, rfl, by decide +kernel, by decide +kernel⟩
theorem ok_wo {f : Addr} {fd : FuncData} (F : Fun K "_law_wb_worth" "_law_wb_worth" sWo f fd) (T : Bn mg) (hsum : mg "sum" = none) : FnOk P w K mg base CX0 1 f fd ["rest", "den", "costs"] spWo := by
  refine F.ok scWo (fun vs H Q E h => ?_) (fun cdv A outer s H vs Q E hr h => ?_)
  · obtain ⟨r, c, den, xs, pr, rfl, _⟩ := h
    rfl
  · obtain ⟨r, c, den, xs, pr, rfl, er, hp, hb, hne, hl, d0, d1, k⟩ := h
    refine ⟨_, (pss_one (ps_ret (pe_op op_sub (pe_op op_mul (pv 1) (pe_ix ix_list (pv 0) (pe_un un_neg pe_int) (fun _ _ => rfl))) (pe_callB (cr_sum rfl) (by rfl) hsum (by decide +kernel) (pa_cons (pe_lc (own := [("price", 3), ("count", 4)]) (g := gTup K 2 (gCons (gName 3) (gCons (gName 4) gNil))) (tt := tYes) (by rfl) scWo.nd (pi_zipM (by rfl) T.zip (pa_cons (pv 2) (pa_cons (pv 0) pa_nil))) (blkOk_by (own := [("price", 3), ("count", 4)]) (N := ["rest", "den", "costs", "price", "count"]) (sc := defScope sWo) (by decide +kernel)) (fun _ _ _ _ _ => (pg_tup (by rfl) (pgs_cons (pg_name (i := 3) scWo.nd rfl (Or.inl rfl)) (pgs_cons (pg_name (i := 4) scWo.nd rfl (Or.inl rfl)) pgs_nil)))) (fun _ _ _ _ _ => pts_nil) (fun _ _ _ _ _ => (pe_op op_mul (pv 3) (pv 4)))) pa_nil))))), ?_⟩
    refine ⟨_, rfl, _, rfl, _, rfl, r, _, _, _, rfl, rfl, SqL.of er, last_at hne, _, _, rfl, rfl, .inl ⟨d0, d1⟩, ?_⟩
    have turn : ∀ (D T : Addr) (i : Nat) (H1 : Hp) (a b : Int), pr[i]? = some a → xs[i]? = some b → H D = none → H1 D = some (.lst (((List.zipWith (fun a b => a * b) pr xs).take i).map V.int)) → Same H H1 → H1 T = none → (-(2 ^ 64) < a ∧ a < 2 ^ 64) ∧ ((((List.zipWith (fun a b => a * b) pr xs).take i).map V.int).length < sizeLine) ∧
        (upd (upd H1 T (.tup [.int a, .int b])) D (.lst (((List.zipWith (fun a b => a * b) pr xs).take i).map V.int ++ [.int (a * b)]))) D = some (.lst (((List.zipWith (fun a b => a * b) pr xs).take (i + 1)).map V.int)) ∧ Same H (upd (upd H1 T (.tup [.int a, .int b])) D (.lst (((List.zipWith (fun a b => a * b) pr xs).take i).map V.int ++ [.int (a * b)]))) := by
      intro D T i H1 a b ha hb' hD e1 s1 hT
      refine ⟨hb a (List.mem_of_getElem? ha), ?_, ?_, fun b' o eb => ?_⟩
      · have hi := (List.getElem?_eq_some_iff.mp hb').1
        rw [List.length_map, List.length_take, sizeLine_eq]
        omega
      · rw [upd_same, List.take_succ, List.getElem?_zipWith, ha, hb', List.map_append]
        rfl
      · rw [upd_ne (ne_of_none eb hD), upd_ne (ne_of_none (s1 _ _ eb) hT)]
        exact s1 _ _ eb
    rcases hp with hp | hp
    · refine ⟨_, rfl, _, rfl, c, r, _, _, rfl, .inl ⟨SqT.of hp, SqL.of er, fun D hD => ?_⟩⟩
      refine lc_it (walk_mix (K := K) (a := c) (b := r) (xs := pr.map V.int) (ys := xs.map V.int) (n := min pr.length xs.length) (by rw [List.length_map, List.length_map])) (fun i H' => H' D = some (.lst (((List.zipWith (fun a b => a * b) pr xs).take i).map V.int)) ∧ Same H H') ⟨upd_same, same_new hD⟩ (fun _ _ _ h => ⟨SqT.of (h.2 _ _ hp), SqL.of (h.2 _ _ er)⟩) ?_ ?_
      · rintro i x H1 H1z hi ⟨e1, s1⟩ ⟨T0, x', y', rfl, hT, rfl, hx', hy'⟩
        rw [List.getElem?_map] at hx' hy'
        obtain ⟨a, ha, rfl⟩ := Option.map_eq_some_iff.mp hx'
        obtain ⟨b, hb2, rfl⟩ := Option.map_eq_some_iff.mp hy'
        obtain ⟨t1, t2, t3, t4⟩ := turn D T0 i H1 a b ha hb2 hD e1 s1 hT
        exact ⟨T0, _, rfl, SqT.of upd_same, rfl, _, _, rfl, _, _, rfl, rfl, rfl, _, rfl, _, rfl, _, _, rfl, rfl, .inl t1, _, (upd_ne (ne_of_none e1 hT)).trans e1, t2, t3, t4⟩
      · rintro H1 ⟨e1, s1⟩
        rw [List.take_of_length_le (by rw [List.length_zipWith]; omega)] at e1
        exact ⟨D, _, rfl, SqL.of e1, _, _, rfl, rfl, k H1 s1⟩
    · refine ⟨_, rfl, _, rfl, c, r, _, _, rfl, .inr ⟨SqL.of hp, SqL.of er, fun D hD => ?_⟩⟩
      refine lc_it (walk_zip (K := K) (a := c) (b := r) (xs := pr.map V.int) (ys := xs.map V.int) (n := min pr.length xs.length) (by rw [List.length_map, List.length_map])) (fun i H' => H' D = some (.lst (((List.zipWith (fun a b => a * b) pr xs).take i).map V.int)) ∧ Same H H') ⟨upd_same, same_new hD⟩ (fun _ _ _ h => ⟨SqL.of (h.2 _ _ hp), SqL.of (h.2 _ _ er)⟩) ?_ ?_
      · rintro i x H1 H1z hi ⟨e1, s1⟩ ⟨T0, x', y', rfl, hT, rfl, hx', hy'⟩
        have hx' : (pr.map V.int)[i]? = some x' := hx'
        have hy' : (xs.map V.int)[i]? = some y' := hy'
        rw [List.getElem?_map] at hx' hy'
        obtain ⟨a, ha, rfl⟩ := Option.map_eq_some_iff.mp hx'
        obtain ⟨b, hb2, rfl⟩ := Option.map_eq_some_iff.mp hy'
        obtain ⟨t1, t2, t3, t4⟩ := turn D T0 i H1 a b ha hb2 hD e1 s1 hT
        exact ⟨T0, _, rfl, SqT.of upd_same, rfl, _, _, rfl, _, _, rfl, rfl, rfl, _, rfl, _, rfl, _, _, rfl, rfl, .inl t1, _, (upd_ne (ne_of_none e1 hT)).trans e1, t2, t3, t4⟩
      · rintro H1 ⟨e1, s1⟩
        rw [List.take_of_length_le (by rw [List.length_zipWith]; omega)] at e1
        exact ⟨D, _, rfl, SqL.of e1, _, _, rfl, rfl, k H1 s1⟩
end
end K67

set_option Elab.async false
set_option linter.all false
set_option pp.maxSteps 900
set_option maxRecDepth 100000
set_option maxHeartbeats 4000000
namespace K67
open PySem PySem.Spec PyProof.Rows L2
open TL (tl)
abbrev sRs : Stmt := top 47
/-! ### the law's rests -/
def RdV (W : Web) (H : Hp) (kvs : List (List Key × V)) (val : Nat → Int → List Int) : Prop := ∀ (a : Nat) (p : Int), FinP W a p → ∃ r : Addr, valV kvs (pK (a : Nat) p) = some (.ref r) ∧ H r = some (.lst ((val a p).map V.int)) ∧ RV W a p (val a p)
theorem RdV.ex {W : Web} {H : Hp} {kvs : List (List Key × V)} (h : RdOk W H kvs) (F : RdF W kvs) : ∃ val, RdV W H kvs val := by
  have : ∀ (a : Nat) (p : Int), ∃ xs : List Int, FinP W a p → ∃ r : Addr, valV kvs (pK (a : Nat) p) = some (.ref r) ∧ H r = some (.lst (xs.map V.int)) ∧ RV W a p xs := fun a p => by
    by_cases hf : FinP W a p
    · obtain ⟨v, hv⟩ := Option.isSome_iff_exists.mp (F.co a p hf)
      obtain ⟨r, xs, rfl, h2, _, h4⟩ := h _ _ hv
      exact ⟨xs, fun _ => ⟨r, hv, h2, h4 a p rfl⟩⟩
    · exact ⟨[], fun h => absurd h hf⟩
  exact ⟨fun a p => Classical.choose (this a p), fun a p => Classical.choose_spec (this a p)⟩
theorem RdV.keep {W : Web} {H H' : Hp} {kvs : List (List Key × V)} {val : Nat → Int → List Int} (h : RdV W H kvs val) (k : ∀ b l, H b = some (.lst l) → H' b = some (.lst l)) : RdV W H' kvs val := fun a p hf => by
  obtain ⟨r, h1, h2, h3⟩ := h a p hf
  exact ⟨r, h1, k _ _ h2, h3⟩
/-- lists of ints, each an object of its own -/
def LIs (fl : Addr) (H : Hp) (rs : List V) (L : List (List Int)) : Prop := rs.length = L.length ∧ ∀ (i : Nat) (xs : List Int), L[i]? = some xs → ∃ r : Addr, rs[i]? = some (.ref r) ∧ r ≠ fl ∧ H r = some (.lst (xs.map V.int))
theorem LIs.keep {fl : Addr} {H H' : Hp} {rs : List V} {L : List (List Int)} (h : LIs fl H rs L) (k : ∀ b l, b ≠ fl → H b = some (.lst l) → H' b = some (.lst l)) : LIs fl H' rs L := ⟨h.1, fun i xs e => by
  obtain ⟨r, h1, h2, h3⟩ := h.2 i xs e
  exact ⟨r, h1, h2, k _ _ h2 h3⟩⟩
theorem LIs.snoc {fl r : Addr} {H : Hp} {rs : List V} {L : List (List Int)} {xs : List Int} (h : LIs fl H rs L) (hr : r ≠ fl) (e : H r = some (.lst (xs.map V.int))) : LIs fl H (rs ++ [.ref r]) (L ++ [xs]) := by
  refine ⟨by rw [List.length_append, List.length_append, h.1]; rfl, fun i ys hi => ?_⟩
  by_cases hlt : i < L.length
  · rw [List.getElem?_append_left hlt] at hi
    obtain ⟨q, h1, h2, h3⟩ := h.2 i ys hi
    exact ⟨q, by rw [List.getElem?_append_left (by rw [h.1]; exact hlt)]; exact h1, h2, h3⟩
  · have hle := (List.getElem?_eq_some_iff.mp hi).1
    rw [List.length_append] at hle
    have hle : i < L.length + 1 := hle
    obtain rfl : i = L.length := by omega
    rw [List.getElem?_append_right (Nat.le_refl _), Nat.sub_self] at hi
    obtain rfl := Option.some.inj hi
    exact ⟨r, by rw [List.getElem?_append_right (by rw [h.1]; omega), h.1, Nat.sub_self]; rfl, hr, e⟩
theorem LIs.nil {fl : Addr} {H : Hp} : LIs fl H [] [] := ⟨rfl, fun i xs e => by cases e⟩
theorem val_at {kv : List (List Key × V)} {k : List Key} : ∀ {v : V}, valV kv k = some v → ∃ (m : Nat) (v' : V), kv[m]? = some (k, v') := by
  induction kv with
  | nil => intro v h; cases h
  | cons p r ih =>
    intro v h
    by_cases e : p.1 = k
    · exact ⟨0, p.2, by rw [← e]; rfl⟩
    · rw [valV_neg e] at h
      obtain ⟨m, v', hm⟩ := ih h
      exact ⟨m + 1, v', hm⟩
theorem at_val {kv : List (List Key × V)} {k : List Key} : ∀ {m : Nat} {v : V}, kv[m]? = some (k, v) → ∃ v', valV kv k = some v' := by
  induction kv with
  | nil => intro m v h; cases h
  | cons p r ih =>
    intro m v h
    by_cases e : p.1 = k
    · exact ⟨p.2, valV_pos e⟩
    · rw [valV_neg e]
      match m, h with
      | 0, h =>
        obtain rfl := Option.some.inj h
        exact absurd rfl e
      | m + 1, h => exact ih h
structure RsI (W : Web) (kvs kv : List (List Key × V)) (val : Nat → Int → List Int) (i : Nat) (L : List (List Int)) : Prop where
  so : ∀ xs ∈ L, (xs = val 0 0 ∧ UsP W 0 0) ∨ ∃ a e, UsE W a e ∧ xs = rst W val a e
  c0 : UsP W 0 0 → val 0 0 ∈ L
  co : ∀ (m : Nat) (v : V) (a : Nat) (p : Int) (nt : Int × List Ed) (e : Ed), m < i → kv[m]? = some (pK (a : Nat) p, v) → W.ns[a]? = some nt → e ∈ goL kvs a p nt.2 → rst W val a e ∈ L
theorem RsI.add {W : Web} {kvs kv : List (List Key × V)} {val : Nat → Int → List Int} {i : Nat} {L : List (List Int)} {a : Nat} {e : Ed} (h : RsI W kvs kv val i L) (u : UsE W a e) : RsI W kvs kv val i (L ++ [rst W val a e]) := by
  refine ⟨fun xs hx => ?_, fun hu => List.mem_append_left _ (h.c0 hu), fun m v a p nt e h1 h2 h3 h4 => List.mem_append_left _ (h.co m v a p nt e h1 h2 h3 h4)⟩
  rcases List.mem_append.mp hx with hx | hx
  · exact h.so xs hx
  · exact .inr ⟨a, e, u, List.mem_singleton.mp hx⟩
def spRs : Sp := fun vs H Q _ => ∃ (g f u : Addr) (vw : V) (W : Web) (kvs kv : List (List Key × V)) (val : Nat → Int → List Int), vs = [vw, .ref f, .ref u] ∧ DV g H vw (wbD W) ∧ OkW W ∧ (∀ n ∈ W.ns, n.2.length ≤ 7) ∧ H f = some (.dT kvs) ∧ RdF W kvs ∧ RdV W H kvs val ∧ H u = some (.dT kv) ∧ f ≠ u ∧
  (∀ k v, valV kv k = some v → ∃ (a : Nat) (p : Int), k = pK (a : Nat) p ∧ UsP W a p) ∧ (∀ a p, fnd kv (a, p) = true ↔ UsP W a p) ∧ kv.length ≤ 16001 ∧
  ∀ (D : Addr) (H' : Hp) (rs : List V) (L : List (List Int)), Same H H' → H D = none → H' D = some (.lst rs) → LIs D H' rs L → RsOk W val L → Q (.ref D) H'
section
variable {P : Program} {w : World} {K : PySem.W.Frag} {mg : Str → Option Value} {base : Heap}
theorem scRs : FnScope ["web", "roads", "used", "found", "pair", "edge", "rest"] ["web", "roads", "used"] (defScope sRs) := ⟨rfl, rfl, rfl, by decide +kernel, rfl, by decide +kernel, by decide +kernel⟩
theorem ok_rs {f : Addr} {fd : FuncData} (F : Fun K "_law_wb_rests" "_law_wb_rests" sRs f fd) (T : Bn mg) (cGo : Cl P w K mg base "_law_wb_going" ["web", "roads", "pair"] 1 spGo) (cSum : Cl P w K mg base "_law_wb_sum" ["one", "other", "times"] 1 spSum) (cOwn : Cl P w K mg base "_law_wb_own" ["web", "edge"] 1 spOwn) :
    FnOk P w K mg base CX0 2 f fd ["web", "roads", "used"] spRs := by
  obtain ⟨fGo, fdGo, GGo, mGo, kGo, bGo⟩ := cGo
  obtain ⟨fSum, fdSum, GSum, mSum, kSum, bSum⟩ := cSum
  obtain ⟨fOwn, fdOwn, GOwn, mOwn, kOwn, bOwn⟩ := cOwn
  refine F.ok scRs (fun vs H Q E h => ?_) (fun cdv A outer s H vs Q E hr h => ?_)
  · obtain ⟨g, fr, u, a, b, c, d, e, rfl, _⟩ := h
    rfl
  · obtain ⟨g, fr, u, vw, W, kvs, kv, val, rfl, hw, okw, he7, ef, hrd, hrv, eu, hfu, hks, huf, hkl, k⟩ := h
    have hu := hu_of hr
    have hlb := okw.lb
    have hvl : ∀ {a : Nat} {p : Int}, FinP W a p → (val a p).length = W.lb.toNat + 1 := fun {a p} hf => by
      obtain ⟨_, _, _, h⟩ := hrv a p hf
      exact h.len
    refine ⟨_, (pss_mid (ps_set (i := 3) scRs.nd rfl (Or.inl rfl) (pe_ifExp (pt_cmp (pc_din hu (pe_tup (pa_cons pe_int (pa_cons pe_int pa_nil))) (pv 2))) (pe_lst (pa_cons (pe_dget hu (pv 1) (pe_tup (pa_cons pe_int (pa_cons pe_int pa_nil))) (fun _ _ => rfl)) pa_nil)) (pe_lst pa_nil)))
      (pss_cons (ps_lock (ps_for PassesOwn.never rfl (pi_keys (pv 2)) (pg_name (i := 4) scRs.nd rfl (Or.inl rfl))
          (pss_one (ps_for PassesOwn.never rfl (pi_list (pe_call GGo hr (by rfl) mGo kGo bGo .nil pass0 (pa_cons (pv 0) (pa_cons (pv 1) (pa_cons (pv 4) pa_nil))))) (pg_name (i := 5) scRs.nd rfl (Or.inl rfl))
              (pss_cons (ps_set (i := 6) scRs.nd rfl (Or.inl rfl) (pe_call GSum hr (by rfl) mSum kSum bSum .nil pass0 (pa_cons (pe_dget hu (pv 1) (pv 4) (fun _ _ => rfl)) (pa_cons (pe_call GOwn hr (by rfl) mOwn kOwn bOwn .nil pass0 (pa_cons (pv 0) (pa_cons (pv 5) pa_nil))) (pa_cons (pe_un un_neg pe_int) pa_nil)))))
              (pss_mid (ps_if (pt_cmpR op_notN (pe_ix ix_tup (pv 5) pe_int (fun _ _ => rfl)) pe_non (nomark _)) (pss_one (ps_set (i := 6) scRs.nd rfl (Or.inl rfl) (pe_call GSum hr (by rfl) mSum kSum bSum .nil pass0 (pa_cons (pv 6) (pa_cons (pe_dget hu (pv 1) (pe_tup (pa_cons (pe_ix ix_tup (pv 5) pe_int (fun _ _ => rfl)) (pa_cons pe_int pa_nil))) (fun _ _ => rfl)) (pa_cons (pe_un un_neg pe_int) pa_nil)))))) pss_nil)
              (pss_one (ps_expr (qApp (pv 3) (pe_call GSum hr (by rfl) mSum kSum bSum .nil pass0 (pa_cons (pv 6) (pa_cons (pe_dget hu (pv 1) (pe_tup (pa_cons (pe_ix ix_tup (pv 4) pe_int (fun _ _ => rfl)) (pa_cons (pe_ix ix_tup (pv 5) pe_int (fun _ _ => rfl)) pa_nil))) (fun _ _ => rfl)) (pa_cons (pe_un un_neg pe_int) pa_nil)))))))))))))
      (pss_one (ps_ret (pv 3))))), ?_⟩
    refine ⟨fun σ H' => ∃ (fl : Addr) (rs : List V) (L : List (List Int)), σ = [some vw, some (.ref fr), some (.ref u), some (.ref fl), none, none, none] ∧ Same H H' ∧ H fl = none ∧ H' fl = some (.lst rs) ∧ LIs fl H' rs L ∧ rs.length ≤ 1 ∧ RsI W kvs kv val 0 L, ?_, ?_⟩
    · refine ⟨(by show 2 ≤ sizeLine; decide), fun t ht => ?_⟩
      generalize hH1 : upd H t _ = H1
      obtain ⟨st, et⟩ := freshF ht hH1
      refine ⟨_, rfl, u, _, rfl, DGet.t (k := pK 0 0) (st _ _ eu) et, _, rfl, ?_⟩
      have hk : (valV kv (pK 0 0)).isSome = true ↔ UsP W 0 0 := huf 0 0
      cases hb : (valV kv (pK 0 0)).isSome with
      | true =>
        have hus := hk.mp hb
        obtain ⟨r, hv, er, hr0⟩ := hrv 0 0 hus.fin
        refine ifT rfl ⟨_, rfl, (by show 2 ≤ sizeLine; decide), fun t2 ht2 => ?_⟩
        generalize hH2 : upd H1 t2 _ = H2
        obtain ⟨st2, et2⟩ := freshF ht2 hH2
        have g0 := DGet.t (k := pK 0 0) (st2 _ _ (st _ _ ef)) et2
        rw [show valV kvs (pK 0 0) = some (.ref r) from hv] at g0
        refine ⟨fr, _, rfl, g0, (by show 1 ≤ sizeLine; decide), fun fl hfl => ?_⟩
        generalize hH3 : upd H2 fl _ = H3
        obtain ⟨sfl, efl⟩ := freshF hfl hH3
        have s03 := st.trans (st2.trans sfl)
        refine ⟨fl, _, [val 0 0], rfl, s03, no_of (st.trans st2) hfl, efl, LIs.nil.snoc (r := r) ?_ (s03 _ _ er), Nat.le_refl _, ?_⟩
        · rintro rfl
          have := (st.trans st2) _ _ er
          rw [hfl] at this
          cases this
        · exact ⟨fun xs hx => .inl ⟨List.mem_singleton.mp hx, hus⟩, fun _ => List.mem_cons_self, fun m v a p nt e h => absurd h (Nat.not_lt_zero _)⟩
      | false =>
        refine ifF rfl ⟨Nat.zero_le _, fun fl hfl => ?_⟩
        generalize hH3 : upd H1 fl _ = H3
        obtain ⟨sfl, efl⟩ := freshF hfl hH3
        refine ⟨fl, _, [], rfl, st.trans sfl, no_of st hfl, efl, LIs.nil, Nat.zero_le _, ?_⟩
        exact ⟨fun xs hx => (by cases hx), fun h => (by rw [hk.mpr h] at hb; cases hb), fun m v a p nt e h => absurd h (Nat.not_lt_zero _)⟩
    rintro σ H1 ⟨fl, rs0, L0, rfl, s1, hfl, efl, lis0, hl0, I0⟩
    refine ⟨u, _, s1 _ _ eu, trivial, fun od => ?_⟩
    have ne1 : ∀ {b : Addr} {o : HO}, H b = some o → b ≠ u → (upd H1 u (.frz od (.dT kv))) b = some o := fun {b o} e hb => by
      rw [upd_ne hb]
      exact s1 _ _ e
    have hflu : fl ≠ u := fun z => by rw [z, eu] at hfl; cases hfl
    refine ⟨_, rfl, u, od, rfl, .inr ⟨_, upd_same, ?_⟩⟩
    refine for_it (walk_keysT (d := u) (o := od) (kvs := kv)) (fun i σ H' => ∃ (rs : List V) (L : List (List Int)) (v4 v5 v6 : Option V), σ = [some vw, some (.ref fr), some (.ref u), some (.ref fl), v4, v5, v6] ∧ (∀ b o, b ≠ u → H b = some o → H' b = some o) ∧ H' u = some (.frz od (.dT kv)) ∧ H' fl = some (.lst rs) ∧ LIs fl H' rs L ∧ rs.length ≤ 1 + 7 * i ∧ RsI W kvs kv val i L)
      ⟨rs0, L0, _, _, _, rfl, fun b o hb e => ne1 e hb, upd_same, (upd_ne hflu).trans efl, lis0.keep (fun b l hb e => by
        rw [upd_ne (by rintro rfl; rw [s1 _ _ eu] at e; cases e)]
        exact e), hl0, I0⟩ (fun i σ H' _ ⟨_, _, _, _, _, _, _, e, _⟩ => e) ?_ ?_
    · rintro i x σ H2z H2 hi ⟨rs, L, v4, v5, v6, rfl, k2, eu2, efl2, lis2, hl2, I2⟩ ⟨rfl, kk, vv, q, hkv, rfl, eq⟩
      obtain ⟨vk, hvk⟩ := at_val hkv
      obtain ⟨a, p, rfl, hus⟩ := hks _ _ hvk
      have eq : H2 q = some (.tup [.int (a : Nat), .int p]) := eq
      obtain ⟨nt, hnt, _, _⟩ := hus.pl okw
      have kt2 : Kt H H2 := fun b l e => k2 _ _ (by rintro rfl; rw [eu] at e; cases e) e
      have kl2 : ∀ b l, H b = some (.lst l) → H2 b = some (.lst l) := fun b l e => k2 _ _ (by rintro rfl; rw [eu] at e; cases e) e
      have hw2 := DV.keepP (g' := g) kt2 (wb_pur W) hw
      have ef2 := k2 _ _ hfu ef
      have hrv2 := hrv.keep kl2
      refine ⟨_, rfl, _, rfl, _, rfl, g, fr, q, vw, W, kvs, a, p, nt, rfl, hw2, okw, ef2, eq, hnt, fun D H3 ys s3 hD eD dvD => ⟨D, rfl, ⟨_, SqL.of eD⟩, ?_⟩⟩
      have hyl : ys.length = (goL kvs a p nt.2).length := by
        have := (dvD g).len
        rw [List.length_map] at this
        exact this
      have hgl : (goL kvs a p nt.2).length ≤ 7 := by
        unfold goL
        refine Nat.le_trans (List.length_filter_le _ _) (Nat.le_trans (List.length_filter_le _ _) (he7 nt (List.mem_of_getElem? hnt)))
      have hDf : fl ≠ D := ne_of_none efl2 hD
      refine for_it (walk_list (K := K) (a := D) (xs := ys)) (fun j σ H' => ∃ (rs : List V) (L : List (List Int)) (v5 v6 : Option V), σ = [some vw, some (.ref fr), some (.ref u), some (.ref fl), some (.ref q), v5, v6] ∧ (∀ b o, b ≠ fl → H3 b = some o → H' b = some o) ∧ H' fl = some (.lst rs) ∧ LIs fl H' rs L ∧ rs.length ≤ 1 + 7 * i + j ∧ RsI W kvs kv val i L ∧ ∀ e ∈ (goL kvs a p nt.2).take j, rst W val a e ∈ L)
        ⟨rs, L, _, _, rfl, fun _ _ _ e => e, s3 _ _ efl2, lis2.keep (fun b l _ e => s3 _ _ e), hl2, I2, (fun e h => by cases h)⟩ (fun j σ H' _ ⟨_, _, _, _, _, kf, _⟩ => SqL.of (kf _ _ hDf.symm eD)) ?_ ?_
      · rintro j x σ H4z H4 hj ⟨rs4, L4, v5, v6, rfl, k4, efl4, lis4, hl4, I4, hcov⟩ ⟨rfl, hx⟩
        obtain ⟨de, hde, hxd⟩ := (dvD g).at_ hx
        rw [List.getElem?_map] at hde
        obtain ⟨e, he, rfl⟩ := Option.map_eq_some_iff.mp hde
        obtain ⟨be, ae, rfl, ebe, xl, eae, rl⟩ := ed_at hxd
        obtain ⟨hen, hep, hop⟩ := (go_iff okw hrd hnt e).mp (List.mem_of_getElem? he)
        have hoe := okw.ed nt (List.mem_of_getElem? hnt) e hen
        have uE : UsE W a e := ⟨nt, hnt, hen, by rw [hep]; exact hus, hop⟩
        have kt34 : Kt H3 H4 := fun b l e => k4 _ _ (by rintro rfl; rw [s3 _ _ efl2] at e; cases e) e
        have kt04 : Kt H H4 := fun b l e => kt34 _ _ (s3 _ _ (kt2 _ _ e))
        have k04 : ∀ b o, b ≠ u → H b = some o → H4 b = some o := fun b o hb e => k4 _ _ (by rintro rfl; rw [hfl] at e; cases e) (s3 _ _ (k2 _ _ hb e))
        have hw4 := DV.keepP (g' := g) kt04 (wb_pur W) hw
        have ebe4 := kt34 _ _ ebe
        have eq4 := kt34 _ _ (s3 _ _ eq)
        have ef4 := k04 _ _ hfu ef
        have hrv4 := hrv.keep (H' := H4) (fun b l e => k04 _ _ (by rintro rfl; rw [eu] at e; cases e) e)
        obtain ⟨r1, hv1, er1, _⟩ := hrv4 a e.p (by rw [hep]; exact hus.fin)
        obtain ⟨r2, hv2, er2, _⟩ := hrv4 a e.t hop.1
        have l1 := hvl (a := a) (p := e.p) (by rw [hep]; exact hus.fin)
        have l2 := hvl hop.1
        have g1 := DGet.t (k := pK (a : Nat) p) ef4 eq4
        rw [show valV kvs (pK (a : Nat) p) = some (.ref r1) by rw [← hep]; exact hv1] at g1
        refine ⟨_, rfl, _, rfl, fr, _, rfl, g1, _, rfl, _, rfl, g, _, _, W, e, rfl, hw4, hlb.1, hlb.2, hxd.keepP kt34 (ed_pur e), hoe.k, fun D1 H5 s5 hD1 eD1 => ⟨1, rfl, r1, D1, val a e.p, own W.lb e, -1, rfl, s5 _ _ er1, eD1, by rw [l1, own_len], by rw [l1]; omega, by decide, by decide, fun D2 H6 s6 hD2 eD2 => ?_⟩⟩
        have eD2 : H6 D2 = some (.lst ((zt (-1) (val a e.p) (own W.lb e)).map V.int)) := eD2
        have l3 : (zt (-1) (val a e.p) (own W.lb e)).length = W.lb.toNat + 1 := by
          show (List.zipWith _ (val a e.p) (own W.lb e)).length = _
          rw [List.length_zipWith, own_len, l1]
          omega
        have s46 := s5.trans s6
        refine ⟨fun σ H' => ∃ (D : Addr) (ys : List Int), σ = [some vw, some (.ref fr), some (.ref u), some (.ref fl), some (.ref q), some (.ref be), some (.ref D)] ∧ Same H4 H' ∧ H' D = some (.lst (ys.map V.int)) ∧ ys.length = W.lb.toNat + 1 ∧ rst W val a e = zt (-1) ys (val a e.t), ?_, ?_⟩
        · refine ⟨_, rfl, be, _, 2, _, rfl, rfl, SqT.of (s46 _ _ ebe4), atI_nat (j := 2) rfl, rfl, _, rfl, ?_⟩
          cases hc : e.c with
          | none =>
            refine ifF rfl ⟨D2, _, rfl, s46, eD2, l3, ?_⟩
            unfold rst
            rw [hc]
          | some c =>
            obtain ⟨r3, hv3, er3, _⟩ := hrv4 c.toNat 0 (hop.2 c hc)
            have l4 := hvl (hop.2 c hc)
            have hc0 := hoe.c c hc
            refine ifT rfl ⟨_, rfl, _, rfl, _, rfl, be, _, 2, _, rfl, rfl, SqT.of (s46 _ _ ebe4), atI_nat (j := 2) rfl, (by show 2 ≤ sizeLine; decide), fun t ht => ?_⟩
            generalize hH7 : upd H6 t _ = H7
            obtain ⟨st, et⟩ := freshF ht hH7
            rw [hc] at et
            have s47 := s46.trans st
            have g3 := DGet.t (k := pK c 0) (s47 _ _ ef4) et
            rw [show valV kvs (pK c 0) = some (.ref r3) by rw [← hv3, Int.toNat_of_nonneg hc0.1]] at g3
            refine ⟨fr, _, rfl, g3, 1, rfl, D2, r3, _, val c.toNat 0, -1, rfl, st _ _ eD2, s47 _ _ er3, by rw [l3, l4], by rw [l3]; omega, by decide, by decide, fun D3 H8 s8 hD3 eD3 => ?_⟩
            refine ⟨D3, _, rfl, s47.trans s8, eD3, ?_, ?_⟩
            · rw [List.length_zipWith, l3, l4]
              omega
            · unfold rst
              rw [hc]
              rfl
        rintro σ H7 ⟨D3, ys3, rfl, s47, eD3, l5, hrst⟩
        refine ⟨_, rfl, .inl ⟨rfl, _, SqL.of (s47 _ _ efl4)⟩, _, rfl, _, rfl, _, rfl, q, _, 0, _, rfl, rfl, SqT.of (s47 _ _ eq4), atI_nat (j := 0) rfl, _, rfl, be, _, 1, _, rfl, rfl, SqT.of (s47 _ _ ebe4), atI_nat (j := 1) rfl, (by show 2 ≤ sizeLine; decide), fun t ht => ?_⟩
        generalize hH8 : upd H7 t _ = H8
        obtain ⟨st, et⟩ := freshF ht hH8
        have s48 := s47.trans st
        have g4 := DGet.t (k := pK (a : Nat) e.t) (s48 _ _ ef4) et
        rw [hv2] at g4
        refine ⟨fr, _, rfl, g4, 1, rfl, D3, r2, _, val a e.t, -1, rfl, st _ _ eD3, s48 _ _ er2, by rw [l5, l2], by rw [l5]; omega, by decide, by decide, fun D4 H9 s9 hD4 eD4 => ?_⟩
        have s49 := s48.trans s9
        have efl9 := s49 _ _ efl4
        have hD4f : D4 ≠ fl := (ne_of_none (s48 _ _ efl4) hD4).symm
        have hjl : j < ys.length := hj
        refine ⟨fl, rs4, _, rfl, rfl, efl9, by rw [sizeLine_eq]; omega, ?_⟩
        refine ⟨rs4 ++ [.ref D4], L4 ++ [rst W val a e], _, _, rfl, fun b o hb e => ?_, upd_same, ?_, by rw [List.length_append]; show rs4.length + 1 ≤ _; omega, I4.add uE, fun e' h => ?_⟩
        · rw [upd_ne hb]
          exact s49 _ _ (k4 _ _ hb e)
        · rw [hrst]
          refine LIs.keep (LIs.snoc (lis4.keep (fun b l _ e => s49 _ _ e)) hD4f eD4) fun b l hb e => ?_
          rw [upd_ne hb]
          exact e
        · rw [List.take_succ, he] at h
          rcases List.mem_append.mp h with h | h
          · exact List.mem_append_left _ (hcov e' h)
          · obtain rfl := List.mem_singleton.mp h
            exact List.mem_append_right _ (List.mem_singleton.mpr rfl)
      · rintro σ H4 ⟨rs4, L4, v5, v6, rfl, k4, efl4, lis4, hl4, I4, hcov⟩
        rw [hyl, List.take_length] at hcov
        refine ⟨rs4, L4, _, _, _, rfl, fun b o hb e => k4 _ _ (by rintro rfl; rw [hfl] at e; cases e) (s3 _ _ (k2 _ _ hb e)), k4 _ _ hflu.symm (s3 _ _ eu2), efl4, lis4, by rw [hyl] at hl4; omega, ⟨I4.so, I4.c0, fun m v a' p' nt' e' h1 h2 h3 h4 => ?_⟩⟩
        by_cases hm : m < i
        · exact I4.co m v a' p' nt' e' hm h2 h3 h4
        · obtain rfl : m = i := by omega
          have h2 := Option.some.inj (h2.symm.trans hkv)
          obtain ⟨h5, rfl⟩ := pK_inj (Prod.mk.inj h2).1
          obtain rfl : a' = a := by omega
          obtain rfl := Option.some.inj (h3.symm.trans hnt)
          exact hcov e' h4
    · rintro σ H2 ⟨rs, L, v4, v5, v6, rfl, k2, eu2, efl2, lis2, hl2, I2⟩
      have sE : Same H (upd H2 u (.dT kv)) := fun b o e => by
        by_cases hb : b = u
        · subst hb
          rw [upd_same, ← eu]
          exact e
        · rw [upd_ne hb]
          exact k2 _ _ hb e
      refine ⟨eu2, _, rfl, k fl _ rs L sE hfl ((upd_ne hflu).trans efl2) (lis2.keep fun b l hb e => ?_) ⟨I2.so, I2.c0, fun a e ⟨nt, h1, h2, h3, h4⟩ => ?_⟩⟩
      · rw [upd_ne (by rintro rfl; rw [eu2] at e; cases e)]
        exact e
      · have hf := (huf a e.p).mpr h3
        obtain ⟨v, hv⟩ := Option.isSome_iff_exists.mp (show (valV kv (pK (a : Nat) e.p)).isSome = true from hf)
        obtain ⟨m, v', hm⟩ := val_at hv
        exact I2.co m v' a e.p nt e (List.getElem?_eq_some_iff.mp hm).1 hm h1 ((go_iff okw hrd h1 e).mpr ⟨h2, rfl, h4⟩)
end
end K67

set_option Elab.async false
set_option linter.all false
set_option pp.maxSteps 900
set_option maxRecDepth 100000
set_option maxHeartbeats 4000000
namespace K67
open PySem PySem.Spec PyProof.Rows L2
open TL (tl)
abbrev sHt : Stmt := top 49
abbrev sDu : Stmt := top 52
/-! ### the law's heights, and what is due -/
noncomputable def vH (W : Web) (h : Nat → Int → Int) (a : Nat) (p : Nat) : V := if usB W a ((p : Nat) : Int) = true then .int (h a ((p : Nat) : Int)) else .non
noncomputable def dH (W : Web) (h : Nat → Int → Int) (a : Nat) (p : Nat) : Dt := if usB W a ((p : Nat) : Int) = true then .int (h a ((p : Nat) : Int)) else .non
theorem dH_pur (W : Web) (h : Nat → Int → Int) (a p : Nat) : pur (dH W h a p) = true := by
  unfold dH
  split <;> rfl
theorem htN_pur (W : Web) (h : Nat → Int → Int) (a : Nat) : pur (htN W h a) = true := purs_map fun p _ => dH_pur W h a p
theorem htD_pur (W : Web) (h : Nat → Int → Int) : pur (htD W h) = true := purs_map fun a _ => htN_pur W h a
theorem duD_pur (W : Web) (den : Int) (pr : List Int) : pur (duD W den pr) = true := by
  by_cases z : ∃ h, Pot W (cst den pr) h
  · unfold duD
    rw [dif_pos z]
    exact htD_pur _ _
  · rw [duD_no z] <;> rfl
theorem vH_dv {g : Addr} {H : Hp} {W : Web} {h : Nat → Int → Int} {a p : Nat} : DV g H (vH W h a p) (dH W h a p) := by
  unfold vH dH
  split
  · exact .int _
  · exact .non
theorem vHs_dv {g : Addr} {H : Hp} {W : Web} {h : Nat → Int → Int} {a : Nat} : ∀ l : List Nat, DVs g H (l.map (vH W h a)) (l.map (dH W h a))
  | [] => .nil
  | p :: l => .cons vH_dv (vHs_dv l)
theorem htN_at {W : Web} {h : Nat → Int → Int} {a : Nat} {nt : Int × List Ed} (hn : W.ns[a]? = some nt) : htN W h a = .tup ((List.range nt.1.toNat).map (dH W h a)) := by
  unfold htN
  rw [hn]
  rfl
def spHt : Sp := fun vs H Q _ => ∃ (g f u c : Addr) (vw : V) (W : Web) (kvs kv : List (List Key × V)) (val : Nat → Int → List Int) (den : Int) (pr : List Int), vs = [vw, .ref f, .ref u, .int den, .ref c] ∧ DV g H vw (wbD W) ∧ OkW W ∧ H f = some (.dT kvs) ∧ RdV W H kvs val ∧ H u = some (.dT kv) ∧
  (∀ a p, fnd kv (a, p) = true ↔ UsP W a p) ∧ PrA H c pr ∧ PrB pr ∧ -(2 ^ 64) < den ∧ den < 2 ^ 64 ∧
  ∀ (D : Addr) (H' : Hp), Same H H' → (∀ g', DV g' H' (.ref D) (htD W fun a p => wor den pr (val a p))) → Q (.ref D) H'
section
variable {P : Program} {w : World} {K : PySem.W.Frag} {mg : Str → Option Value} {base : Heap}
theorem scHt : FnScope ["web", "roads", "used", "den", "costs", "found", "at", "net", "pairs", "place", "pair"] ["web", "roads", "used", "den", "costs"] (defScope sHt) := ⟨rfl, rfl, rfl, by decide +kernel, rfl, by decide +kernel, by decide +kernel⟩
theorem ok_ht {f : Addr} {fd : FuncData} (F : Fun K "_law_wb_heights" "_law_wb_heights" sHt f fd) (T : Bn mg) (cWo : Cl P w K mg base "_law_wb_worth" ["rest", "den", "costs"] 1 spWo) : FnOk P w K mg base CX0 2 f fd ["web", "roads", "used", "den", "costs"] spHt := by
  obtain ⟨fWo, fdWo, GWo, mWo, kWo, bWo⟩ := cWo
  refine F.ok scHt (fun vs H Q E h => ?_) (fun cdv A outer s H vs Q E hr h => ?_)
  · obtain ⟨g, fr, u, c, a, b, d, e, i, j, l, rfl, _⟩ := h
    rfl
  · obtain ⟨g, fr, u, c, vw, W, kvs, kv, val, den, pr, rfl, hw, okw, ef, hrv, eu, huf, hpa, hpb, d0, d1, k⟩ := h
    have hu := hu_of hr
    have hlb := okw.lb
    have hn4 := okw.n4
    refine ⟨_, (pss_cons (ps_set (i := 5) scHt.nd rfl (Or.inl rfl) (pe_lst pa_nil))
      (pss_cons (ps_for PassesOwn.never rfl (pi_enumT (by rfl) T.enu (pa_cons (pe_ix ix_tup (pv 0) pe_int (fun _ _ => rfl)) pa_nil)) (pg_tup (by rfl) (pgs_cons (pg_name (i := 6) scHt.nd rfl (Or.inr rfl)) (pgs_cons (pg_name (i := 7) scHt.nd rfl (Or.inl rfl)) pgs_nil)))
          (pss_cons (ps_setLc (i := 8) (own := [("place", 9)]) (g := gName 9) (tt := tYes) (by rfl) scHt.nd rfl rfl (sw_true rfl rfl rfl (by decide +kernel)) (pi_range1 (by rfl) T.rng (pa_cons (pe_ix ix_tup (pv 7) pe_int (fun _ _ => rfl)) pa_nil)) (blkOk_by (own := [("place", 9)]) (N := ["web", "roads", "used", "den", "costs", "found", "at", "net", "pairs", "place", "pair"]) (sc := defScope sHt) (by decide +kernel)) (fun _ _ _ _ _ => (pg_name (i := 9) scHt.nd rfl (Or.inl rfl))) (fun _ _ _ _ _ => pts_nil) (fun _ _ _ _ _ => (pe_tup (pa_cons (pv 6) (pa_cons (pv 9) pa_nil)))))
          (pss_one (ps_expr (qApp (pv 5) (pe_callTy call_tuple_of (by rfl) T.tpl (by decide +kernel) (pa_cons (pe_lc (own := [("pair", 10)]) (g := gName 10) (tt := tYes) (by rfl) scHt.nd (pi_list (pv 8)) (blkOk_by (own := [("pair", 10)]) (N := ["web", "roads", "used", "den", "costs", "found", "at", "net", "pairs", "place", "pair"]) (sc := defScope sHt) (by decide +kernel)) (fun _ _ _ _ _ => (pg_name (i := 10) scHt.nd rfl (Or.inl rfl))) (fun _ _ _ _ _ => pts_nil) (fun _ _ _ _ _ => (pe_ifExp (pt_cmp (pc_din hu (pv 10) (pv 2))) (pe_call GWo hr (by rfl) mWo kWo bWo .nil pass0 (pa_cons (pe_dget hu (pv 1) (pv 10) (fun _ _ => rfl)) (pa_cons (pv 3) (pa_cons (pv 4) pa_nil)))) pe_non))) pa_nil)))))))
      (pss_one (ps_ret (pe_callTy call_tuple_of (by rfl) T.tpl (by decide +kernel) (pa_cons (pv 5) pa_nil)))))), ?_⟩
    obtain ⟨b0, c0, xn, rfl, eb0, ec0, rn⟩ := wb_at hw
    have hnl : xn.length = W.ns.length := by rw [rn.len, List.length_map]
    generalize hh : (fun (a : Nat) (p : Int) => wor den pr (val a p)) = h at k
    refine ⟨Nat.zero_le _, fun F0 hF0 => ?_⟩
    generalize hH1 : upd H F0 _ = H1
    obtain ⟨sF0, eF0⟩ := freshF hF0 hH1
    refine ⟨_, rfl, b0, _, 1, _, rfl, rfl, SqT.of (sF0 _ _ eb0), atI_nat (j := 1) rfl, c0, xn, rfl, SqT.of (sF0 _ _ ec0), ?_⟩
    refine for_it (walk_enumT (K := K) (a := c0) (xs := xn)) (fun i σ H' => ∃ (ws : List V) (v6 v7 v8 v9 v10 : Option V), σ = [some (.ref b0), some (.ref fr), some (.ref u), some (.int den), some (.ref c), some (.ref F0), v6, v7, v8, v9, v10] ∧ Same H H' ∧ H' F0 = some (.lst ws) ∧ ws.length = i ∧ ∀ g', DVs g' H' ws ((List.range i).map (htN W h)))
      ⟨[], _, _, _, _, _, rfl, sF0, eF0, rfl, fun g' => .nil⟩ (fun i σ H' _ ⟨_, _, _, _, _, _, _, s, _⟩ => SqT.of (s _ _ ec0)) ?_ ?_
    · rintro i x σ H2z H2 hi ⟨ws, v6, v7, v8, v9, v10, rfl, s2z, e2z, hwl, hws⟩ ⟨T0, x', y, rfl, hT, hH2, hx, hy⟩
      obtain rfl := Option.some.inj hx
      obtain ⟨sT, eT⟩ := freshF hT hH2.symm
      obtain ⟨dn, hdn, hyd⟩ := rn.at_ hy
      rw [List.getElem?_map] at hdn
      obtain ⟨nt, hnt, rfl⟩ := Option.map_eq_some_iff.mp hdn
      obtain ⟨b3, c3, xe, rfl, eb3, ec3, re⟩ := nt_at hyd
      have hil : i < W.ns.length := by rw [← hnl]; exact hi
      have s2 := s2z.trans sT
      have npl := okw.pl (List.mem_of_getElem? hnt)
      have npos := okw.pos nt (List.mem_of_getElem? hnt)
      refine ⟨T0, _, rfl, SqT.of eT, (by rfl), _, _, rfl, _, _, rfl, rfl, ?_⟩
      refine ⟨_, rfl, b3, _, 0, _, rfl, rfl, SqT.of (s2 _ _ eb3), atI_nat (j := 0) rfl, nt.1, rfl, by omega, by omega, fun D hD => ?_⟩
      refine lc_it (walk_range (lo := 0) (n := nt.1.toNat)) (fun j H' => ∃ qs : List V, H' D = some (.lst qs) ∧ qs.length = j ∧ Same H2 H' ∧ ∀ g', DVs g' H' qs ((List.range j).map fun p => prD (i, ((p : Nat) : Int)))) ⟨[], upd_same, rfl, same_new hD, fun g' => .nil⟩ (fun _ _ _ _ => trivial) ?_ ?_
      · rintro j x H3z H3 hj ⟨qs, e3, hql, s3, hqs⟩ ⟨rfl, rfl⟩
        refine ⟨(by rfl), ?_⟩
        refine ⟨_, rfl, _, rfl, (by show 2 ≤ sizeLine; decide), fun q hq => ?_⟩
        generalize hH4 : upd H3 q _ = H4
        obtain ⟨sq, eq⟩ := freshF hq hH4
        refine ⟨_, sq _ _ e3, by rw [hql, sizeLine_eq]; omega, qs ++ [.ref q], upd_same, by rw [List.length_append, hql]; rfl, fun b o eb => ?_, fun g' => ?_⟩
        · rw [upd_ne (ne_of_none eb hD)]
          exact sq _ _ (s3 _ _ eb)
        · rw [List.range_succ, List.map_append]
          have kt : Kt H4 (upd H4 D (.lst (qs ++ [.ref q]))) := Kt.put (sq _ _ e3)
          have pp : ∀ l : List Nat, purs (l.map fun p => prD (i, ((p : Nat) : Int))) = true := fun l => purs_map fun _ _ => rfl
          refine (((hqs g').keep (Kv.of sq)).keepP kt (pp _)).app (.cons (prD_of (x := (i, ((j : Nat) : Int))) (kt _ _ ?_)) .nil)
          rw [eq]
          show some (HO.tup [V.int (i : Nat), V.int (0 + (j : Nat))]) = _
          rw [Int.zero_add]
      rintro H3 ⟨qs, e3, hql, s3, hqs⟩
      have s03 := s2.trans s3
      have eF3 := s3 _ _ (sT _ _ e2z)
      refine ⟨_, rfl, .inl ⟨rfl, _, SqL.of eF3⟩, _, rfl, D, rfl, ⟨_, SqL.of e3⟩, fun D2 hD2 => ?_⟩
      refine lc_it (walk_list (K := K) (a := D) (xs := qs)) (fun j H' => H' D2 = some (.lst ((List.range j).map (vH W h i))) ∧ Same H3 H') ⟨upd_same, same_new hD2⟩ (fun _ _ _ h => SqL.of (h.2 _ _ e3)) ?_ ?_
      · rintro j x H4z H4 hj ⟨e4, s4⟩ ⟨rfl, hx⟩
        obtain ⟨dq, hdq, hxd⟩ := (hqs g).at_ hx
        rw [List.getElem?_map] at hdq
        obtain ⟨p, hp, rfl⟩ := Option.map_eq_some_iff.mp hdq
        rw [List.getElem?_range (by rw [← hql]; exact hj)] at hp
        obtain rfl := Option.some.inj hp
        obtain ⟨q, rfl, eq⟩ := prD_at hxd
        have eq : H3 q = some (.tup [.int (i : Nat), .int (j : Nat)]) := eq
        have eq4 := s4 _ _ eq
        have s04 := s03.trans s4
        refine ⟨(by rfl), ?_⟩
        refine ⟨_, rfl, _, rfl, u, _, rfl, DGet.t (k := pK (i : Nat) ((j : Nat) : Int)) (s04 _ _ eu) eq4, _, rfl, ?_⟩
        have hus : (valV kv (pK (i : Nat) ((j : Nat) : Int))).isSome = true ↔ UsP W i ((j : Nat) : Int) := huf i ((j : Nat) : Int)
        have fin : ∀ (H' : Hp) (v : V), Same H4 H' → v = vH W h i j → (upd H' D2 (.lst ((List.range j).map (vH W h i) ++ [v]))) D2 = some (.lst ((List.range (j + 1)).map (vH W h i))) ∧ Same H3 (upd H' D2 (.lst ((List.range j).map (vH W h i) ++ [v]))) := fun H' v s' hv => by
          refine ⟨by rw [upd_same, List.range_succ, List.map_append, hv] <;> rfl, fun b o eb => ?_⟩
          rw [upd_ne (ne_of_none eb hD2)]
          exact s' _ _ (s4 _ _ eb)
        have hjs : ((List.range j).map (vH W h i)).length < sizeLine := by
          rw [List.length_map, List.length_range, sizeLine_eq]
          have hj' : j < qs.length := hj
          omega
        cases hb : (valV kv (pK (i : Nat) ((j : Nat) : Int))).isSome with
        | true =>
          have hu' := hus.mp hb
          obtain ⟨r, hv, er, hrr⟩ := (hrv.keep (fun b l e => s04 _ _ e)) i ((j : Nat) : Int) hu'.fin
          have g1 := DGet.t (k := pK (i : Nat) ((j : Nat) : Int)) (s04 _ _ ef) eq4
          rw [hv] at g1
          have hne : val i ((j : Nat) : Int) ≠ [] := fun z => by
            have := hrr.len
            rw [z] at this
            cases this
          refine ifT rfl ⟨_, rfl, _, rfl, fr, _, rfl, g1, _, rfl, _, rfl, r, c, den, val i ((j : Nat) : Int), pr, rfl, er, hpa.same s04, hpb, hne, by rw [hrr.len]; omega, d0, d1, fun H5 s5 => ?_⟩
          refine ⟨_, s5 _ _ e4, hjs, fin H5 _ s5 ?_⟩
          unfold vH
          rw [if_pos (usB_iff.mpr hu'), ← hh]
        | false =>
          refine ifF rfl ⟨_, e4, hjs, fin H4 _ (Same.refl H4) ?_⟩
          unfold vH
          rw [if_neg]
          intro z
          rw [hus.mpr (usB_iff.mp z)] at hb
          cases hb
      rintro H4 ⟨e4, s4⟩
      rw [hql] at e4
      refine ⟨D2, _, rfl, .inl ⟨SqL.of e4, fun t ht => ?_⟩⟩
      generalize hH5 : upd H4 t _ = H5
      obtain ⟨st, et⟩ := freshF ht hH5
      have s35 := s4.trans st
      have eF5 := s35 _ _ eF3
      refine ⟨F0, ws, _, rfl, rfl, eF5, by rw [hwl, sizeLine_eq]; omega, ws ++ [.ref t], _, _, _, _, _, rfl, fun b o eb => ?_, upd_same, by rw [List.length_append, hwl]; rfl, fun g' => ?_⟩
      · rw [upd_ne (ne_of_none eb hF0)]
        exact s35 _ _ (s03 _ _ eb)
      · rw [List.range_succ, List.map_append]
        have kt : Kt H5 (upd H5 F0 (.lst (ws ++ [.ref t]))) := Kt.put eF5
        refine (((hws g').keep (Kv.of (sT.trans (s3.trans s35)))).keepP kt (purs_map fun a _ => htN_pur W h a)).app (.cons (DV.keepP (g := g') kt (htN_pur W h i) ?_) .nil)
        rw [htN_at hnt]
        refine .tup et ?_ (vHs_dv _)
        rw [List.length_map, List.length_range]
        omega
    rintro σ H2 ⟨ws, v6, v7, v8, v9, v10, rfl, s2, e2, hwl, hws⟩
    rw [hnl] at hws hwl
    refine ⟨_, rfl, F0, ws, rfl, .inl ⟨SqL.of e2, fun t ht => ?_⟩⟩
    generalize hH3 : upd H2 t _ = H3
    obtain ⟨st, et⟩ := freshF ht hH3
    refine k t H3 (s2.trans st) fun g' => .tup et ?_ ((hws g').keep (Kv.of st))
    rw [List.length_map, List.length_range]
    omega

def spDu : Sp := fun vs H Q _ => ∃ (g c : Addr) (vw : V) (W : Web) (den : Int) (pr : List Int), vs = [vw, .int den, .ref c] ∧ DV g H vw (wbD W) ∧ OkW W ∧ (∀ n ∈ W.ns, n.2.length ≤ 7) ∧ PrA H c pr ∧ PrB pr ∧ pr.length = W.lb.toNat ∧ -(2 ^ 64) < den ∧ den < 2 ^ 64 ∧
  ∀ (v : V) (H' : Hp), Same H H' → (∀ g', DV g' H' v (duD W den pr)) → Q v H'
theorem scDu : FnScope ["web", "den", "prices", "roads", "used", "rest"] ["web", "den", "prices"] (defScope sDu) := ⟨rfl, rfl, rfl, by decide +kernel, rfl, by decide +kernel, by decide +kernel⟩
theorem ok_du {f : Addr} {fd : FuncData} (F : Fun K "_law_due" "_law_due" sDu f fd) (T : Bn mg) (cWo : Cl P w K mg base "_law_wb_worth" ["rest", "den", "costs"] 1 spWo) (cRd : Cl P w K mg base "_law_wb_roads" ["web"] 2 spRd) (cUd : Cl P w K mg base "_law_wb_used" ["web", "roads"] 2 spUd)
    (cRs : Cl P w K mg base "_law_wb_rests" ["web", "roads", "used"] 2 spRs) (cHt : Cl P w K mg base "_law_wb_heights" ["web", "roads", "used", "den", "costs"] 2 spHt) : FnOk P w K mg base CX0 3 f fd ["web", "den", "prices"] spDu := by
  obtain ⟨fWo, fdWo, GWo, mWo, kWo, bWo⟩ := cWo
  obtain ⟨fRd, fdRd, GRd, mRd, kRd, bRd⟩ := cRd
  obtain ⟨fUd, fdUd, GUd, mUd, kUd, bUd⟩ := cUd
  obtain ⟨fRs, fdRs, GRs, mRs, kRs, bRs⟩ := cRs
  obtain ⟨fHt, fdHt, GHt, mHt, kHt, bHt⟩ := cHt
  refine F.ok scDu (fun vs H Q E h => ?_) (fun cdv A outer s H vs Q E hr h => ?_)
  · obtain ⟨g, c, a, b, d, e, rfl, _⟩ := h
    rfl
  · obtain ⟨g, c, vw, W, den, pr, rfl, hw, okw, he7, hpa, hpb, hpl, d0, d1, k⟩ := h
    have hr1 : Room 1 _ := hr.mono (by decide)
    have hlb := okw.lb
    refine ⟨_, (pss_cons (ps_set (i := 3) scDu.nd rfl (Or.inl rfl) (pe_call GRd hr (by rfl) mRd kRd bRd .nil pass0 (pa_cons (pv 0) pa_nil)))
      (pss_cons (ps_set (i := 4) scDu.nd rfl (Or.inl rfl) (pe_call GUd hr (by rfl) mUd kUd bUd .nil pass0 (pa_cons (pv 0) (pa_cons (pv 3) pa_nil))))
      (pss_cons (ps_for PassesOwn.never rfl (pi_list (pe_call GRs hr (by rfl) mRs kRs bRs .nil pass0 (pa_cons (pv 0) (pa_cons (pv 3) (pa_cons (pv 4) pa_nil))))) (pg_name (i := 5) scDu.nd rfl (Or.inl rfl))
          (pss_one (ps_if (pt_cmpR op_ne (pe_call GWo hr1 (by rfl) mWo kWo bWo .nil pass0 (pa_cons (pv 5) (pa_cons (pv 1) (pa_cons (pv 2) pa_nil)))) pe_int (nomark _)) (pss_one (ps_ret pe_non)) pss_nil)))
      (pss_one (ps_ret (pe_call GHt hr (by rfl) mHt kHt bHt .nil pass0 (pa_cons (pv 0) (pa_cons (pv 3) (pa_cons (pv 4) (pa_cons (pv 1) (pa_cons (pv 2) pa_nil))))))))))), ?_⟩
    refine ⟨_, rfl, g, vw, W, rfl, hw, okw, fun fr kvs H1 s1 hfr efr hro hrf hkl => ?_⟩
    obtain ⟨val, hrv⟩ := RdV.ex hro hrf
    have hvv : ∀ a p, FinP W a p → RV W a p (val a p) := fun a p hf => (hrv a p hf).elim fun r h => h.2.2
    refine ⟨_, rfl, _, rfl, g, fr, vw, W, kvs, rfl, hw.keep (Kv.of s1), okw, efr, hrf, fun u H2 kv s2 hu eu hks huf hkl2 => ?_⟩
    have hfu : fr ≠ u := ne_of_none efr hu
    have s02 := s1.trans s2
    refine ⟨_, rfl, _, rfl, _, rfl, g, fr, u, vw, W, kvs, kv, val, rfl, hw.keep (Kv.of s02), okw, he7, s2 _ _ efr, hrf, hrv.keep (fun b l e => s2 _ _ e), eu, hfu, hks, huf, hkl2, fun D H3 rs L s3 hD eD lis R => ⟨D, rfl, ⟨_, SqL.of eD⟩, ?_⟩⟩
    have s03 := s02.trans s3
    have hlen : ∀ xs ∈ L, xs.length = W.lb.toNat + 1 := fun xs hx => by
      rcases R.so xs hx with ⟨rfl, h⟩ | ⟨a, e, h, rfl⟩
      · exact val_len hvv h.fin
      · exact rst_len hvv h
    refine for_it (walk_list (K := K) (a := D) (xs := rs)) (fun i σ H' => ∃ v5 : Option V, σ = [some vw, some (.int den), some (.ref c), some (.ref fr), some (.ref u), v5] ∧ Same H3 H' ∧ ∀ xs ∈ L.take i, wor den pr xs = 0) ⟨_, rfl, Same.refl H3, (fun xs h => by cases h)⟩ (fun i σ H' _ ⟨_, _, s, _⟩ => SqL.of (s _ _ eD)) ?_ ?_
    · rintro i x σ H4z H4 hi ⟨v5, rfl, s4, hz⟩ ⟨rfl, hx⟩
      have hil : i < L.length := by rw [← lis.1]; exact hi
      obtain ⟨r, hr', hrD, er⟩ := lis.2 i _ (List.getElem?_eq_getElem hil)
      obtain rfl := Option.some.inj (hx.symm.trans hr')
      generalize hxs : L[i] = xs at er
      have hLi : L[i]? = some xs := by rw [← hxs]; exact List.getElem?_eq_getElem hil
      have hxl := hlen xs (List.mem_of_getElem? hLi)
      have s04 := s03.trans s4
      refine ⟨_, rfl, _, rfl, _, rfl, r, c, den, xs, pr, rfl, s4 _ _ er, hpa.same s04, hpb, (fun z => by rw [z] at hxl; cases hxl), by rw [hxl]; omega, d0, d1, fun H5 s5 => ⟨rfl, _, rfl, ?_⟩⟩
      by_cases h0 : wor den pr xs = 0
      · refine ifF ?_ ⟨_, rfl, s4.trans s5, fun ys hy => ?_⟩
        · rw [h0] <;> rfl
        · rw [List.take_succ, hLi] at hy
          rcases List.mem_append.mp hy with hy | hy
          · exact hz ys hy
          · rw [List.mem_singleton.mp hy]
            exact h0
      · refine ifT ?_ (k .non H5 (s04.trans s5) fun g' => ?_)
        · show (!decide (V.int _ = V.int _)) = true
          rw [decide_eq_false (fun z => h0 (V.int.inj z))]
          rfl
        · rw [duD_no fun ⟨h, Ph⟩ => h0 (R.zero okw hpl hvv Ph xs (List.mem_of_getElem? hLi))]
          exact .non
    rintro σ H4 ⟨v5, rfl, s4, hz⟩
    rw [lis.1, List.take_length] at hz
    have s04 := s03.trans s4
    refine ⟨_, rfl, _, rfl, _, rfl, _, rfl, _, rfl, g, fr, u, c, vw, W, kvs, kv, val, den, pr, rfl, hw.keep (Kv.of s04), okw, s4 _ _ (s3 _ _ (s2 _ _ efr)), hrv.keep (fun b l e => s4 _ _ (s3 _ _ (s2 _ _ e))), s4 _ _ (s3 _ _ eu), huf, hpa.same s04, hpb, d0, d1, fun Dv H5 s5 hdv => k _ H5 (s04.trans s5) fun g' => ?_⟩
    rw [duD_of okw hpl (R.pot okw hpl hvv hz)]
    exact hdv g'
end
end K67

set_option Elab.async false
set_option linter.all false
set_option pp.maxSteps 900
set_option maxRecDepth 100000
set_option maxHeartbeats 4000000
namespace K67
open PySem PySem.Spec PyProof.Rows L2
open TL (tl)
abbrev sDn : Stmt := top 29
abbrev sAP : Stmt := top 30
abbrev sCB : Stmt := top 28
abbrev sCo : Stmt := top 31
abbrev sNN : Stmt := top 27
/-! ### the program's questions and costs -/
def denB : Dt → Bool | .int i => decide (1 ≤ i) | _ => false
def priB (n : Nat) : Dt → Bool | .tup l => decide (l.length = n) && l.all isInt | _ => false
def spAP : Sp := fun vs H Q _ => ∃ (g : Addr) (vw v : V) (W : Web) (d : Dt), vs = [vw, v] ∧ DV g H vw (wbD W) ∧ OkW W ∧ DV g H v d ∧ ∀ H', Same H H' → Q (.bl (priB W.lb.toNat d)) H'
/-- the chart as it is read -/
structure ChS (H : Hp) (C CE : Addr) (W : Web) (p dx sl dl el ul cl : Addr) (us : List Nat) (ch : List (Option Nat)) (xs : List V) (fs : List (Str × V)) : Prop where
  hp : H p = some (.ins C dx fs)
  ed : fs.lookup ("edges" : Str) = some (.ref el)
  st : fs.lookup ("starts" : Str) = some (.ref sl)
  en : fs.lookup ("ends" : Str) = some (.ref dl)
  ud : fs.lookup ("used" : Str) = some (.ref ul)
  co : fs.lookup ("choice" : Str) = some (.ref cl)
  he : H el = some (.lst xs)
  hx : EdL CE H W xs (exOf W)
  hs : H sl = some (.lst (stsV W))
  hd : H dl = some (lN (endsOf W))
  hu : H ul = some (lN us)
  hc : H cl = some (.lst (ch.map oN))
theorem ChS.keep {H H' : Hp} {C CE : Addr} {W : Web} {p dx sl dl el ul cl : Addr} {us : List Nat} {ch : List (Option Nat)} {xs : List V} {fs : List (Str × V)} (h : ChS H C CE W p dx sl dl el ul cl us ch xs fs) (s : Same H H') : ChS H' C CE W p dx sl dl el ul cl us ch xs fs :=
  ⟨s _ _ h.hp, h.ed, h.st, h.en, h.ud, h.co, s _ _ h.he, h.hx.kx (Kx.of s), s _ _ h.hs, s _ _ h.hd, s _ _ h.hu, s _ _ h.hc⟩
def spCo (C CE : Addr) : Sp := fun vs H Q _ => ∃ (p dx sl dl el ul cl c : Addr) (us : List Nat) (ch : List (Option Nat)) (xs : List V) (fs : List (Str × V)) (W : Web) (den : Int) (pr : List Int), vs = [.ref p, .int den, .ref c] ∧ ChS H C CE W p dx sl dl el ul cl us ch xs fs ∧ OkW W ∧ H c = some (.tup (pr.map V.int)) ∧ pr.length = W.lb.toNat ∧ -(2 ^ 64) < den ∧ den < 2 ^ 64 ∧
  ∀ (D : Addr) (H' : Hp), Same H H' → H D = none → H' D = some (.lst ((exOf W).map fun y => V.int (cst den pr y.2.2))) → Q (.ref D) H'
def rTupOf (K : PySem.W.Frag) : List V → Hp → VK → Prop := fun xs H Q => ∃ p ys, xs = [.ref p] ∧ ((SqL K H p ys ∧ ∀ l, H l = none → Q (.ref l) (upd H l (.tup ys))) ∨ (SqT K H p ys ∧ Q (.ref p) H))
def gC (h : Nat → V) : Option Nat → Option Int
  | none => some 0
  | some c => match h c with | .int i => some i | _ => none
def spCB (C CE : Addr) : Sp := fun vs H Q _ => ∃ (p dx sl dl el ul cl cs wl : Addr) (us : List Nat) (ch : List (Option Nat)) (xs : List V) (fs : List (Str × V)) (W : Web) (den : Int) (pr : List Int) (ws : List V) (at_ : Nat) (y : Nat × Nat × Ed) (g s : Int), vs = [.ref p, .ref cs, .int (at_ : Nat), .ref wl] ∧ ChS H C CE W p dx sl dl el ul cl us ch xs fs ∧
  H cs = some (.lst ((exOf W).map fun y => V.int (cst den pr y.2.2))) ∧ H wl = some (.lst ws) ∧ (exOf W)[at_]? = some y ∧ ws[(geX W y).g]? = some (.int g) ∧ ((geX W y).c = none → s = 0) ∧ (∀ c, (geX W y).c = some c → ws[c]? = some (.int s)) ∧ Q (.int (cst den pr y.2.2 + g + s)) H
section
variable {P : Program} {w : World} {K : PySem.W.Frag} {mg : Str → Option Value} {base : Heap}
theorem scDn : FnScope ["value"] ["value"] (defScope sDn) := ⟨rfl, rfl, rfl, by decide +kernel, rfl, by decide +kernel, by decide +kernel⟩
theorem ok_dn {f : Addr} {fd : FuncData} (F : Fun K "_is_den" "_is_den" sDn f fd) (cWhl : Cl P w K mg base "is_whole" ["value"] 1 (spAsk isInt)) : FnOk P w K mg base CX0 2 f fd ["value"] (spAsk denB) := by
  obtain ⟨fWhl, fdWhl, GWhl, mWhl, kWhl, bWhl⟩ := cWhl
  refine F.ok scDn (fun vs H Q E h => ?_) (fun cdv A outer s H vs Q E hr h => ?_)
  · obtain ⟨g, v, d, rfl, _⟩ := h
    rfl
  · obtain ⟨g, v, d, rfl, hd, k⟩ := h
    refine ⟨_, (pss_one (ps_ret (pe_and (pe_call GWhl hr (by rfl) mWhl kWhl bWhl .nil pass0 (pa_cons (pv 0) pa_nil)) (pe_one (pe_cmpR op_ge (pv 0) pe_int (nomark _)))))), ?_⟩
    refine ⟨_, rfl, g, v, d, rfl, hd, fun H1 s1 => ⟨_, rfl, ?_⟩⟩
    cases hd with
    | int i => exact ifT rfl ⟨_, rfl, _, _, rfl, rfl, k H1 s1⟩
    | _ => exact ifF rfl (k H1 s1)
theorem scAp : FnScope ["web", "value", "price"] ["web", "value"] (defScope sAP) := ⟨rfl, rfl, rfl, by decide +kernel, rfl, by decide +kernel, by decide +kernel⟩
theorem ok_ap {f : Addr} {fd : FuncData} (F : Fun K "_are_prices" "_are_prices" sAP f fd) (T : Bn mg) (cTof : Cl P w K mg base "is_tuple_of" ["value", "many"] 1 spTof) (cWhl : Cl P w K mg base "is_whole" ["value"] 1 (spAsk isInt)) : FnOk P w K mg base CX0 2 f fd ["web", "value"] spAP := by
  obtain ⟨fTof, fdTof, GTof, mTof, kTof, bTof⟩ := cTof
  obtain ⟨fWhl, fdWhl, GWhl, mWhl, kWhl, bWhl⟩ := cWhl
  refine F.ok scAp (fun vs H Q E h => ?_) (fun cdv A outer s H vs Q E hr h => ?_)
  · obtain ⟨g, vw, v, W, d, rfl, _⟩ := h
    rfl
  · obtain ⟨g, vw, v, W, d, rfl, hw, okw, hd, k⟩ := h
    have hlb := okw.lb
    refine ⟨_, (pss_one (ps_ret (pe_and (pe_call GTof hr (by rfl) mTof kTof bTof .nil pass0 (pa_cons (pv 1) (pa_cons (pe_ix ix_tup (pv 0) pe_int (fun _ _ => rfl)) pa_nil))) (pe_one (pe_callB (cr_all rfl) (by rfl) T.all (by decide +kernel) (pa_cons (pe_lc (own := [("price", 2)]) (g := gName 2) (tt := tYes) (by rfl) scAp.nd (pi_tup (pv 1)) (blkOk_by (own := [("price", 2)]) (N := ["web", "value", "price"]) (sc := defScope sAP) (by decide +kernel)) (fun _ _ _ _ _ => (pg_name (i := 2) scAp.nd rfl (Or.inl rfl))) (fun _ _ _ _ _ => pts_nil) (fun _ _ _ _ _ => (pe_call GWhl hr (by rfl) mWhl kWhl bWhl .nil pass0 (pa_cons (pv 2) pa_nil)))) pa_nil)))))), ?_⟩
    obtain ⟨b0, c0, xn, rfl, eb0, ec0, rn⟩ := wb_at hw
    refine ⟨_, rfl, _, rfl, b0, _, 0, _, rfl, rfl, SqT.of eb0, atI_nat (j := 0) rfl, g, v, d, W.lb.toNat, ?_, hd, fun H1 s1 => ⟨_, rfl, ?_⟩⟩
    · show [v, V.int W.lb] = _
      rw [Int.toNat_of_nonneg hlb.1]
    have hd1 := hd.keep (Kv.of s1)
    cases d with
    | tup ks =>
      have e1 : lenIs W.lb.toNat (.tup ks) = decide (ks.length = W.lb.toNat) := rfl
      have e2 : priB W.lb.toNat (.tup ks) = (decide (ks.length = W.lb.toNat) && ks.all isInt) := rfl
      rw [e1]
      rw [e2] at k
      cases hb : decide (ks.length = W.lb.toNat) with
      | false =>
        rw [hb] at k
        exact ifF rfl (k H1 s1)
      | true =>
        rw [hb] at k
        obtain ⟨al, xs, rfl, eal, hxl, rr⟩ := hd1.tup_inv
        refine ifT rfl ⟨_, rfl, al, rfl, ⟨_, SqT.of eal⟩, ?_⟩
        refine lc_tupB (K := K) (f := isInt) (i := 2) (vs := [2]) rr eal hxl ?_ ?_ ?_
        · exact fun x => rfl
        · intro x d H2' R hm hx s2 hR
          exact ⟨_, rfl, g, x, d, rfl, hx, hR⟩
        · intro D H7 s7 hD
          refine ⟨D, ks.map isInt, rfl, sql_bl hD, ?_⟩
          rw [all_map]
          exact k H7 (s1.trans s7)
    | _ => exact ifF rfl (k H1 s1)
theorem scCb : FnScope ["chart", "costs", "at", "worth", "edge"] ["chart", "costs", "at", "worth"] (defScope sCB) := ⟨rfl, rfl, rfl, by decide +kernel, rfl, by decide +kernel, by decide +kernel⟩
theorem ok_cb {f C CE fIU fIF fIO fFi fRe : Addr} {fd : FuncData} (F : Fun K "cost_behind" "cost_behind" sCB f fd) (CC : ChK K C fIU fIF fIO fFi fRe) (EE : ClA K CE eNames) : FnOk P w K mg base CX0 1 f fd ["chart", "costs", "at", "worth"] (spCB C CE) := by
  refine F.ok scCb (fun vs H Q E h => ?_) (fun cdv A outer s H vs Q E hr h => ?_)
  · obtain ⟨a1, a2, a3, a4, a5, a6, a7, a8, a9, a10, a11, a12, a13, a14, a15, a16, a17, a18, a19, a20, a21, rfl, _⟩ := h
    rfl
  · obtain ⟨p, dx, sl, dl, el, ul, cl, cs, wl, us, ch, xs, fs, W, den, pr, ws, at_, y, g, sv, rfl, R, hcs, hwl, hy, hg, hs0, hs1, k⟩ := h
    have na := fun (f : Str) (h : f ∈ eNames) => EE.na f h
    obtain ⟨q, hq, dxe, fse, hqe, ef⟩ := R.hx.2 at_ y hy
    refine ⟨_, (pss_cons (ps_set (i := 4) scCb.nd rfl (Or.inl rfl) (pe_ix ix_list (pe_fld (pv 0) rfl) (pv 2) (fun _ _ => rfl)))
      (pss_one (ps_ret (pe_op op_add (pe_op op_add (pe_ix ix_list (pv 1) (pv 2) (fun _ _ => rfl)) (pe_ix ix_list (pv 3) (pe_fld (pv 4) rfl) (fun _ _ => rfl))) (pe_ifExp (pt_cmpR op_isN (pe_fld (pv 4) rfl) pe_non (nomark _)) pe_int (pe_ix ix_list (pv 3) (pe_fld (pv 4) rfl) (fun _ _ => rfl))))))), ?_⟩
    refine ⟨_, rfl, p, C, dx, fs, _, rfl, R.hp, CC.a.cl, CC.a.na "edges" (by decide +kernel), R.ed, _, rfl, el, xs, (at_ : Nat), .ref q, rfl, rfl, SqL.of R.he, atI_nat hq, ?_⟩
    refine ⟨_, rfl, _, rfl, cs, _, (at_ : Nat), .int (cst den pr y.2.2), rfl, rfl, SqL.of hcs, atI_nat (by rw [List.getElem?_map, hy] <;> rfl), ?_⟩
    refine ⟨_, rfl, _, rfl, q, CE, dxe, fse, _, rfl, hqe, EE.cl, na "goal" (by decide +kernel), ef.goal, wl, ws, ((geX W y).g : Nat), .int g, rfl, rfl, SqL.of hwl, atI_nat hg, ?_⟩
    refine ⟨_, _, rfl, rfl, _, rfl, q, CE, dxe, fse, _, rfl, hqe, EE.cl, na "start" (by decide +kernel), ef.start, rfl, _, rfl, ?_⟩
    have hst := ef.start
    have hcc : (y.2.2.c.map fun c => stN W.ns c.toNat) = (geX W y).c := rfl
    rw [hcc] at hst ⊢
    cases hc : (geX W y).c with
    | none =>
      refine ifT rfl ⟨_, _, rfl, rfl, ?_⟩
      rw [hs0 hc] at k
      exact k
    | some c =>
      rw [hc] at hst
      exact ifF rfl ⟨_, rfl, _, rfl, q, CE, dxe, fse, _, rfl, hqe, EE.cl, na "start" (by decide +kernel), hst, wl, ws, (c : Nat), .int sv, rfl, rfl, SqL.of hwl, atI_nat (hs1 c hc), _, _, rfl, rfl, k⟩
theorem scCo : FnScope ["chart", "den", "prices", "edge", "label"] ["chart", "den", "prices"] (defScope sCo) := ⟨rfl, rfl, rfl, by decide +kernel, rfl, by decide +kernel, by decide +kernel⟩
/-- the scope of the inner comprehension -/
def scLab : Scope := match ((defBody sCo : List Stmt)[0]? : Option Stmt) with
  | some (Stmt.Return (some (Expr.ListComp _ _ sc _)) _) => { sc with names := sc.names.map fun p => if p.2 = .free then (p.1, .cell) else p }
  | _ => defScope sCo
theorem ok_co {f C CE fIU fIF fIO fFi fRe : Addr} {fd : FuncData} (F : Fun K "_costs" "_costs" sCo f fd) (T : Bn mg) (hsum : mg "sum" = none) (CC : ChK K C fIU fIF fIO fFi fRe) (EE : ClA K CE eNames) : FnOk P w K mg base CX0 1 f fd ["chart", "den", "prices"] (spCo C CE) := by
  refine F.ok scCo (fun vs H Q E h => ?_) (fun cdv A outer s H vs Q E hr h => ?_)
  · obtain ⟨a1, a2, a3, a4, a5, a6, a7, a8, a9, a10, a11, a12, a13, a14, a15, rfl, _⟩ := h
    rfl
  · obtain ⟨p, dx, sl, dl, el, ul, cl, c, us, ch, xs, fs, W, den, pr, rfl, R, okw, hc, hpl, d0, d1, k⟩ := h
    refine ⟨_, (pss_one (ps_ret (pe_lc (own := [("edge", 3)]) (g := gName 3) (tt := tYes) (by rfl) scCo.nd (pi_list (pe_fld (pv 0) rfl)) (blkOk_by (own := [("edge", 3)]) (N := ["chart", "den", "prices", "edge", "label"]) (sc := defScope sCo) (by decide +kernel)) (fun _ _ _ _ _ => (pg_name (i := 3) scCo.nd rfl (Or.inl rfl))) (fun _ _ _ _ _ => pts_nil) (fun _ _ _ _ _ => (pe_op op_sub (pe_op op_mul (pv 1) (show PE _ _ (tFld K _ _) from pe_fld (pv 3) rfl)) (pe_callB (show CallR _ _ (rSum K) from cr_sum rfl) (by rfl) hsum (by decide +kernel) (pa_cons (pe_lc (own := [("label", 4)]) (g := gName 4) (tt := tYes) (by rfl) scCo.nd (show PI _ _ _ (iTup K _) from (pi_tup (show PE _ _ (tFld K _ _) from pe_fld (pv 3) rfl))) (blkOk_by (own := [("label", 4)]) (N := ["chart", "den", "prices", "edge", "label"]) (sc := scLab) (by decide +kernel)) (fun _ _ _ _ _ => (pg_name (i := 4) scCo.nd rfl (Or.inl rfl))) (fun _ _ _ _ _ => pts_nil) (fun _ _ _ _ _ => (pe_ix (show IxR _ (rIxT K) from ix_tup) (pv 2) (pv 4) (fun _ _ => rfl)))) pa_nil))))))), ?_⟩
    have na := fun (f : Str) (h : f ∈ eNames) => EE.na f h
    have hxl : xs.length = (exOf W).length := R.hx.1
    have hex : (exOf W).length ≤ 8000 := by
      have h1 := ges_len okw
      have h2 : (exOf W).length = (gesOf W).length := ex_len
      omega
    refine ⟨_, rfl, p, C, dx, fs, _, rfl, R.hp, CC.a.cl, CC.a.na "edges" (by decide +kernel), R.ed, el, rfl, ⟨_, SqL.of R.he⟩, fun D hD => ?_⟩
    refine lc_it (walk_list (K := K) (a := el) (xs := xs)) (fun i H' => H' D = some (.lst (((exOf W).take i).map fun y => V.int (cst den pr y.2.2))) ∧ Same H H') ⟨upd_same, same_new hD⟩ (fun _ _ _ h => SqL.of (h.2 _ _ R.he)) ?_ ?_
    · rintro i x H1z H1 hi ⟨e1, s1⟩ ⟨rfl, hx⟩
      have hil : i < (exOf W).length := by rw [← hxl]; exact hi
      obtain ⟨y, hy⟩ : ∃ y, (exOf W)[i]? = some y := ⟨_, List.getElem?_eq_getElem hil⟩
      obtain ⟨q, hq, dxe, fse, hqe, ef⟩ := R.hx.2 i y hy
      obtain rfl := Option.some.inj (hx.symm.trans hq)
      obtain ⟨lq, hlf, hlq⟩ := ef.labels
      obtain ⟨nt, _, hnt, hye⟩ := ex_mem (List.mem_of_getElem? hy)
      have hoe := okw.ed nt (List.mem_of_getElem? hnt) y.2.2 (List.mem_of_getElem? hye)
      refine ⟨(by rfl), ?_⟩
      refine ⟨_, rfl, _, rfl, q, CE, dxe, fse, _, rfl, s1 _ _ hqe, EE.cl, na "edge_beats" (by decide +kernel), ef.beats, _, _, rfl, rfl, .inl ⟨d0, d1⟩, ?_⟩
      refine ⟨_, rfl, q, CE, dxe, fse, _, rfl, s1 _ _ hqe, EE.cl, na "labels" (by decide +kernel), hlf, lq, rfl, ⟨_, SqT.of (s1 _ _ hlq)⟩, fun D2 hD2 => ?_⟩
      refine lc_it (walk_tup (K := K) (a := lq) (xs := y.2.2.l.map V.int)) (fun j H' => H' D2 = some (.lst (((y.2.2.l.take j).map fun k => pr.getD k.toNat 0).map V.int)) ∧ Same H1 H') ⟨upd_same, same_new hD2⟩ (fun _ _ _ h => SqT.of (h.2 _ _ (s1 _ _ hlq))) ?_ ?_
      · rintro j x H2z H2 hj ⟨e2, s2⟩ ⟨rfl, hx2⟩
        have hx2 : (y.2.2.l.map V.int)[j]? = some x := hx2
        rw [List.getElem?_map] at hx2
        obtain ⟨lk, hk, rfl⟩ := Option.map_eq_some_iff.mp hx2
        have hk0 := hoe.k lk (List.mem_of_getElem? hk)
        have hkl : lk.toNat < pr.length := by rw [hpl]; omega
        refine ⟨(by rfl), ?_⟩
        refine ⟨_, rfl, _, rfl, c, pr.map V.int, lk, .int (pr.getD lk.toNat 0), rfl, rfl, SqT.of (s2 _ _ (s1 _ _ hc)), ?_, _, e2, ?_, ?_, fun b o eb => ?_⟩
        · have := atI_nat (xs := pr.map V.int) (j := lk.toNat) (v := .int (pr.getD lk.toNat 0)) (by rw [List.getElem?_map, List.getElem?_eq_getElem hkl, List.getD_eq_getElem?_getD, List.getElem?_eq_getElem hkl] <;> rfl)
          rw [Int.toNat_of_nonneg hk0.1] at this
          exact this
        · have hl8 := hoe.l
          rw [List.length_map, List.length_map, List.length_take, sizeLine_eq]
          omega
        · rw [upd_same, List.take_succ, hk, List.map_append, List.map_append]
          rfl
        · rw [upd_ne (ne_of_none eb hD2)]
          exact s2 _ _ eb
      rintro H2 ⟨e2, s2⟩
      rw [List.length_map, List.take_length] at e2
      refine ⟨D2, _, rfl, SqL.of e2, _, _, rfl, rfl, _, s2 _ _ e1, ?_, ?_, fun b o eb => ?_⟩
      · rw [List.length_map, List.length_take, sizeLine_eq]
        omega
      · rw [upd_same, List.take_succ, hy, List.map_append]
        rfl
      · rw [upd_ne (ne_of_none eb hD)]
        exact s2 _ _ (s1 _ _ eb)
    rintro H1 ⟨e1, s1⟩
    rw [hxl, List.take_length] at e1
    exact k D H1 s1 hD e1
/-! #### the nets' parts -/
def spNN (C CE : Addr) : Sp := fun vs H Q _ => ∃ (p dx sl dl el ul cl wl : Addr) (us : List Nat) (ch : List (Option Nat)) (xs : List V) (fs : List (Str × V)) (W : Web) (h : Nat → Int → Int) (ws : List V), vs = [.ref p, .ref wl] ∧ ChS H C CE W p dx sl dl el ul cl us ch xs fs ∧ OkW W ∧ H wl = some (.lst ws) ∧ ws.length = stN W.ns W.ns.length ∧
  (∀ (a : Nat) (nt : Int × List Ed) (p : Nat), W.ns[a]? = some nt → p < nt.1.toNat → ws[stN W.ns a + p]? = some (vH W h a p)) ∧ ∀ (D : Addr) (H' : Hp), Same H H' → (∀ g', DV g' H' (.ref D) (htD W h)) → Q (.ref D) H'
theorem part {α : Type} {l : List α} {i n : Nat} {f : Nat → α} (h : ∀ p, p < n → l[i + p]? = some (f p)) : (l.drop i).take n = (List.range n).map f := by
  refine List.ext_getElem? fun j => ?_
  by_cases hj : j < n
  · rw [List.getElem?_take_of_lt hj, List.getElem?_drop, h j hj, List.getElem?_map, List.getElem?_range hj]
    rfl
  · rw [List.getElem?_eq_none (by rw [List.length_take]; omega), List.getElem?_eq_none (by rw [List.length_map, List.length_range]; omega)]
theorem scNn : FnScope ["chart", "worth", "start", "end"] ["chart", "worth"] (defScope sNN) := ⟨rfl, rfl, rfl, by decide +kernel, rfl, by decide +kernel, by decide +kernel⟩
theorem ok_nn {f C CE fIU fIF fIO fFi fRe : Addr} {fd : FuncData} (F : Fun K "net_by_net" "net_by_net" sNN f fd) (T : Bn mg) (CC : ChK K C fIU fIF fIO fFi fRe) : FnOk P w K mg base CX0 1 f fd ["chart", "worth"] (spNN C CE) := by
  refine F.ok scNn (fun vs H Q E h => ?_) (fun cdv A outer s H vs Q E hr h => ?_)
  · obtain ⟨a1, a2, a3, a4, a5, a6, a7, a8, a9, a10, a11, a12, a13, a14, a15, rfl, _⟩ := h
    rfl
  · obtain ⟨p, dx, sl, dl, el, ul, cl, wl, us, ch, xs, fs, W, h, ws, rfl, R, okw, hwl, hlen, hat, k⟩ := h
    have hn4 := okw.n4
    have hst := st_le okw
    refine ⟨_, (pss_one (ps_ret (pe_callTy call_tuple_of (by rfl) T.tpl (by decide +kernel) (pa_cons (pe_lc (own := [("start", 2), ("end", 3)]) (g := gTup K 2 (gCons (gName 2) (gCons (gName 3) gNil))) (tt := tYes) (by rfl) scNn.nd (pi_zip (by rfl) T.zip (pa_cons (pe_fld (pv 0) rfl) (pa_cons (pe_fld (pv 0) rfl) pa_nil))) (blkOk_by (own := [("start", 2), ("end", 3)]) (N := ["chart", "worth", "start", "end"]) (sc := defScope sNN) (by decide +kernel)) (fun _ _ _ _ _ => (pg_tup (by rfl) (pgs_cons (pg_name (i := 2) scNn.nd rfl (Or.inl rfl)) (pgs_cons (pg_name (i := 3) scNn.nd rfl (Or.inl rfl)) pgs_nil)))) (fun _ _ _ _ _ => pts_nil) (fun _ _ _ _ _ => (pe_callTy (show CallR _ _ (rTupOf K) from call_tuple_of) (by rfl) T.tpl (by decide +kernel) (pa_cons (pe_slice (show SlR _ (rSlL K) from sl_list) (pv 1) (po_some (pv 2)) (po_some (pe_op op_add (pv 3) pe_int))) pa_nil)))) pa_nil)))), ?_⟩
    have hsl : (stsV W).length = W.ns.length := by
      unfold stsV
      rw [List.length_map, List.length_range]
    have hel : ((endsOf W).map fun n => V.int (n : Nat)).length = W.ns.length := by
      unfold endsOf
      rw [List.length_map, List.length_map, List.length_range]
    refine ⟨_, rfl, p, C, dx, fs, _, rfl, R.hp, CC.a.cl, CC.a.na "starts" (by decide +kernel), R.st, _, rfl, p, C, dx, fs, _, rfl, R.hp, CC.a.cl, CC.a.na "ends" (by decide +kernel), R.en, sl, dl, _, _, rfl, SqL.of R.hs, SqL.of R.hd, fun D hD => ?_⟩
    refine lc_it (walk_zip (K := K) (a := sl) (b := dl) (xs := stsV W) (ys := (endsOf W).map fun n => V.int (n : Nat)) (n := W.ns.length) (by rw [hsl, hel]; omega)) (fun i H' => ∃ rs : List V, H' D = some (.lst rs) ∧ rs.length = i ∧ Same H H' ∧ ∀ g', DVs g' H' rs ((List.range i).map (htN W h))) ⟨[], upd_same, rfl, same_new hD, fun g' => .nil⟩ (fun _ _ _ ⟨_, _, _, s, _⟩ => ⟨SqL.of (s _ _ R.hs), SqL.of (s _ _ R.hd)⟩) ?_ ?_
    · rintro i x H1 H1z hi ⟨rs, e1, hrl, s1, hrs⟩ ⟨T0, x', y', rfl, hT, rfl, hx', hy'⟩
      have hx2 : (stsV W)[i]? = some x' := hx'
      have hy2 : ((endsOf W).map fun n => V.int (n : Nat))[i]? = some y' := hy'
      obtain rfl := Option.some.inj (hx2.symm.trans (sts_at hi))
      obtain ⟨nt, hnt⟩ : ∃ nt, W.ns[i]? = some nt := ⟨_, List.getElem?_eq_getElem hi⟩
      have npos := okw.pos nt (List.mem_of_getElem? hnt)
      have npl := okw.pl (List.mem_of_getElem? hnt)
      have hye : y' = .int ((stN W.ns (i + 1) - 1 : Nat) : Int) := by
        unfold endsOf at hy2
        rw [List.getElem?_map, List.getElem?_map, List.getElem?_range hi] at hy2
        exact (Option.some.inj hy2).symm
      subst hye
      have hss := st_succ hnt
      generalize hH2 : upd H1 T0 _ = H2
      obtain ⟨sT0, eT0⟩ := freshF hT hH2
      have s02 := s1.trans sT0
      refine ⟨T0, _, rfl, SqT.of eT0, rfl, _, _, rfl, _, _, rfl, rfl, rfl, ?_⟩
      refine ⟨_, rfl, _, rfl, _, rfl, _, rfl, _, _, rfl, rfl, _, rfl, wl, ws, rfl, SqL.of (s02 _ _ hwl), fun l hl => ?_⟩
      have hcut : cutV ws (some ((stN W.ns i : Nat) : Int)) (some (((stN W.ns (i + 1) - 1 : Nat) : Int) + 1)) = (List.range nt.1.toNat).map (vH W h i) := by
        have e : ((stN W.ns (i + 1) - 1 : Nat) : Int) + 1 = ((stN W.ns (i + 1) : Nat) : Int) := by omega
        have hle : stN W.ns (i + 1) ≤ ws.length := by rw [hlen]; exact st_mono hi
        unfold cutV
        rw [e, HT.sIx_nat, HT.sIx_nat, Nat.min_eq_left hle, Nat.min_eq_left (by omega), show stN W.ns (i + 1) - stN W.ns i = nt.1.toNat by omega]
        exact part fun p hp => hat i nt p hnt hp
      rw [hcut]
      generalize hH3 : upd H2 l _ = H3
      obtain ⟨sl, el⟩ := freshF hl hH3
      refine ⟨l, _, rfl, .inl ⟨SqL.of el, fun t ht => ?_⟩⟩
      generalize hH4 : upd H3 t _ = H4
      obtain ⟨st, et⟩ := freshF ht hH4
      have s14 := sT0.trans (sl.trans st)
      have e4 := s14 _ _ e1
      refine ⟨_, e4, by rw [hrl, sizeLine_eq]; omega, rs ++ [.ref t], upd_same, by rw [List.length_append, hrl]; rfl, fun b o eb => ?_, fun g' => ?_⟩
      · rw [upd_ne (ne_of_none eb hD)]
        exact s14 _ _ (s1 _ _ eb)
      · rw [List.range_succ, List.map_append]
        have kt : Kt H4 (upd H4 D (.lst (rs ++ [.ref t]))) := Kt.put e4
        refine (((hrs g').keep (Kv.of s14)).keepP kt (purs_map fun a _ => htN_pur W h a)).app (.cons (DV.keepP (g := g') kt (htN_pur W h i) ?_) .nil)
        rw [htN_at hnt]
        refine .tup et ?_ (vHs_dv _)
        rw [List.length_map, List.length_range]
        omega
    rintro H1 ⟨rs, e1, hrl, s1, hrs⟩
    refine ⟨D, rs, rfl, .inl ⟨SqL.of e1, fun t ht => ?_⟩⟩
    generalize hH2 : upd H1 t _ = H2
    obtain ⟨st, et⟩ := freshF ht hH2
    refine k t H2 (s1.trans st) fun g' => .tup et ?_ ((hrs g').keep (Kv.of st))
    rw [List.length_map, List.length_range]
    omega
end
end K67

set_option Elab.async false
set_option linter.all false
set_option pp.maxSteps 900
set_option maxRecDepth 100000
set_option maxHeartbeats 4000000
namespace K67
open PySem PySem.Spec PyProof.Rows L2
open TL (tl)
abbrev sHO : Stmt := top 26
abbrev sHe : Stmt := top 25
/-! ### heights on a chart -/
def oZ : Option Int → V
  | none => .non
  | some i => .int i
/-- a height that any heights that fit must have -/
structure GV (W : Web) (den : Int) (pr : List Int) (x : Nat) (v : Int) : Prop where
  en : x ∈ endsOf W → v = 0
  un : ∀ h, Pot W (cst den pr) h → ∀ (a : Nat) (p : Int), Pl W a p → x = spN W a p → v = h a p
abbrev UsX (W : Web) (x : Nat) : Prop := Us (gesOf W) (endsOf W) 0 x
structure WoI (W : Web) (den : Int) (pr : List Int) (O : List Nat) (i : Nat) (wo : List (Option Int)) : Prop where
  ln : wo.length = stN W.ns W.ns.length
  i1 : ∀ (j x : Nat), j < i → O[j]? = some x → UsX W x → ∃ v, wo[x]? = some (some v)
  i2 : ∀ (x : Nat) (v : Int), wo[x]? = some (some v) → UsX W x ∧ GV W den pr x v
/-- the place of a spot -/
theorem us_pl {W : Web} (o : OkW W) {x : Nat} (h : UsX W x) : ∃ a p, Pl W a p ∧ x = spN W a p ∧ UsP W a p := by
  have go : ∀ {x}, UsX W x → ∃ a p, Pl W a p ∧ x = spN W a p := fun {x} h => by
    induction h with
    | base h => exact ⟨0, 0, pl_0 o, rfl⟩
    | @goal g h hs ho ih =>
      obtain ⟨b, nt, ed, hbl, hb, he, rfl⟩ := ges_mem.mp h
      exact ⟨b, ed.t, pl_t o hb he, rfl⟩
    | @call g c h hs ho hc ih =>
      obtain ⟨b, nt, ed, hbl, hb, he, rfl⟩ := ges_mem.mp h
      have hc : (ed.c.map fun c => stN W.ns c.toNat) = some c := hc
      cases hce : ed.c with
      | none => rw [hce] at hc; cases hc
      | some z =>
        rw [hce] at hc
        obtain rfl := Option.some.inj hc
        exact ⟨z.toNat, 0, pl_c o hb he hce, rfl⟩
  obtain ⟨a, p, h1, h2⟩ := go h
  exact ⟨a, p, h1, h2, us_from o h a p h1 h2⟩
/-- what a chosen edge is -/
theorem ge_ex {W : Web} {t : Nat} {e : GE} (h : (gesOf W)[t]? = some e) : ∃ y, (exOf W)[t]? = some y ∧ e = geX W y := by
  unfold gesOf at h
  rw [← ex_ges, List.getElem?_map] at h
  obtain ⟨y, h1, h2⟩ := Option.map_eq_some_iff.mp h
  exact ⟨y, h1, h2.symm⟩
def hG (h : Nat → Int → Int) (y : Nat × Nat × Ed) : Int := h y.1 y.2.2.t + hC h y.2.2.c
/-- one more height -/
theorem WoI.step {W : Web} {den : Int} {pr : List Int} {O : List Nat} {ch : List (Option Nat)} {i x t : Nat} {wo : List (Option Int)} {y : Nat × Nat × Ed} (o : OkW W) (I : WoI W den pr O i wo) (FI : FinI (stN W.ns W.ns.length) (gesOf W) (endsOf W) O ch) (hfd : ∀ x, x ∈ O ↔ Fn (gesOf W) (endsOf W) x)
    (hx : O[i]? = some x) (hu : UsX W x) (hch : ch[x]? = some (some t)) (hy : (exOf W)[t]? = some y) (hs : (geX W y).s = x) (hn : ∀ z ∈ needs (geX W y), z ∈ O.take i) :
    ∃ g s, wo[(geX W y).g]? = some (some g) ∧ ((geX W y).c = none → s = 0) ∧ (∀ c, (geX W y).c = some c → wo[c]? = some (some s)) ∧ GV W den pr x (cst den pr y.2.2 + g + s) := by
  obtain ⟨nt, hyl, hnt, hye⟩ := ex_mem (List.mem_of_getElem? hy)
  have hmem := List.mem_of_getElem? hye
  have hge := List.mem_of_getElem? (ex_ge hy)
  have hop : Op (gesOf W) (endsOf W) (geX W y) := fun z hz => (hfd z).mp (List.mem_of_mem_take (hn z hz))
  have hopp : OpP W y.1 y.2.2 := (op_iff o hnt hmem).mp hop
  have at_ : ∀ z, z ∈ needs (geX W y) → UsX W z → ∃ v, wo[z]? = some (some v) := fun z hz huz => by
    obtain ⟨j, hj⟩ := List.getElem?_of_mem (hn z hz)
    have hjl := (List.getElem?_eq_some_iff.mp hj).1
    rw [List.length_take] at hjl
    rw [List.getElem?_take_of_lt (by omega)] at hj
    exact I.i1 j z (by omega) hj huz
  have hus : UsX W (geX W y).s := by rw [hs]; exact hu
  obtain ⟨g, hg⟩ := at_ _ List.mem_cons_self (Us.goal hge hus hop)
  have hup : UsP W y.1 y.2.2.p := us_from o hus y.1 y.2.2.p (pl_p o hnt hmem) rfl
  have fin : ∀ s, (∀ h, Pot W (cst den pr) h → s = hC h y.2.2.c) → GV W den pr x (cst den pr y.2.2 + g + s) := fun s hsv => by
    refine ⟨fun he => ?_, fun h P a p hp e => ?_⟩
    · rw [FI.no x he] at hch
      cases hch
    · obtain ⟨rfl, rfl⟩ := sp_inj hp (pl_p o hnt hmem) (e.symm.trans hs.symm)
      rw [P.ed y.1 nt y.2.2 hnt hmem hup hopp, (I.i2 _ _ hg).2.un h P y.1 y.2.2.t (pl_t o hnt hmem) rfl, hsv h P]
  cases hc : (geX W y).c with
  | none =>
    refine ⟨g, 0, hg, fun _ => rfl, (fun c h => by cases h), fin 0 fun h P => ?_⟩
    have hc : (y.2.2.c.map fun c => stN W.ns c.toNat) = none := hc
    cases hce : y.2.2.c with
    | none => rfl
    | some c => rw [hce] at hc; cases hc
  | some c =>
    obtain ⟨s, hsv⟩ := at_ c (by show c ∈ (geX W y).g :: (geX W y).c.toList; rw [hc]; simp) (Us.call hge hus hop hc)
    refine ⟨g, s, hg, (fun h => by cases h), (fun c' h => by obtain rfl := Option.some.inj h; exact hsv), fin s fun h P => ?_⟩
    have hc : (y.2.2.c.map fun c => stN W.ns c.toNat) = some c := hc
    cases hce : y.2.2.c with
    | none => rw [hce] at hc; cases hc
    | some z =>
      rw [hce] at hc
      obtain rfl := Option.some.inj hc
      exact (I.i2 _ _ hsv).2.un h P z.toNat 0 (pl_c o hnt hmem hce) rfl
theorem WoI.set {W : Web} {den : Int} {pr : List Int} {O : List Nat} {i x : Nat} {wo : List (Option Int)} {v : Int} (I : WoI W den pr O i wo) (hx : O[i]? = some x) (hl : x < stN W.ns W.ns.length) (hu : UsX W x) (g : GV W den pr x v) : WoI W den pr O (i + 1) (wo.set x (some v)) := by
  have hxl : x < wo.length := by rw [I.ln]; exact hl
  refine ⟨by rw [List.length_set]; exact I.ln, fun j z hj hz hz2 => ?_, fun z u hz => ?_⟩
  · by_cases e : x = z
    · subst e
      exact ⟨v, List.getElem?_set_self hxl⟩
    · rw [List.getElem?_set_ne e]
      by_cases hji : j < i
      · exact I.i1 j z hji hz hz2
      · obtain rfl : j = i := by omega
        exact absurd (Option.some.inj (hx.symm.trans hz)) e
  · by_cases e : x = z
    · subst e
      rw [List.getElem?_set_self hxl] at hz
      obtain rfl := Option.some.inj (Option.some.inj hz)
      exact ⟨hu, g⟩
    · rw [List.getElem?_set_ne e] at hz
      exact I.i2 z u hz
theorem WoI.skip {W : Web} {den : Int} {pr : List Int} {O : List Nat} {i x : Nat} {wo : List (Option Int)} (I : WoI W den pr O i wo) (hx : O[i]? = some x) (hu : ¬ UsX W x) : WoI W den pr O (i + 1) wo := by
  refine ⟨I.ln, fun j z hj hz hz2 => ?_, I.i2⟩
  by_cases hji : j < i
  · exact I.i1 j z hji hz hz2
  · obtain rfl : j = i := by omega
    obtain rfl := Option.some.inj (hx.symm.trans hz)
    exact absurd hz2 hu
def hOf (W : Web) (wo : List (Option Int)) (a : Nat) (p : Int) : Int := (wo[spN W a p]?.join).getD 0
/-- how the height of an edge's start stands to its costs -/
def FitE (W : Web) (den : Int) (pr : List Int) (wo : List (Option Int)) (y : Nat × Nat × Ed) : Prop := ∃ v g s, wo[(geX W y).s]? = some (some v) ∧ wo[(geX W y).g]? = some (some g) ∧ ((geX W y).c = none → s = 0) ∧ (∀ c, (geX W y).c = some c → wo[c]? = some (some s)) ∧ v = cst den pr y.2.2 + g + s
theorem WoI.all {W : Web} {den : Int} {pr : List Int} {O : List Nat} {wo : List (Option Int)} (I : WoI W den pr O O.length wo) (hfd : ∀ x, x ∈ O ↔ Fn (gesOf W) (endsOf W) x) {x : Nat} (hu : UsX W x) (hf : Fn (gesOf W) (endsOf W) x) : ∃ v, wo[x]? = some (some v) := by
  obtain ⟨j, hj⟩ := List.getElem?_of_mem ((hfd x).mpr hf)
  exact I.i1 j x (List.getElem?_eq_some_iff.mp hj).1 hj hu
theorem usx_fn {W : Web} (o : OkW W) {x : Nat} (h : UsX W x) : Fn (gesOf W) (endsOf W) x := by
  obtain ⟨a, p, h1, rfl, h3⟩ := us_pl o h
  exact (fin_iff o h1).mpr h3.fin
theorem WoI.pot {W : Web} {den : Int} {pr : List Int} {O : List Nat} {wo : List (Option Int)} (o : OkW W) (I : WoI W den pr O O.length wo) (hfd : ∀ x, x ∈ O ↔ Fn (gesOf W) (endsOf W) x) (h0 : ∀ v, wo[0]? = some (some v) → v = 0)
    (hE : ∀ y ∈ exOf W, UsX W (geX W y).s → Op (gesOf W) (endsOf W) (geX W y) → FitE W den pr wo y) : Pot W (cst den pr) (hOf W wo) := by
  have at_ : ∀ {a : Nat} {p : Int}, UsP W a p → ∃ v, wo[spN W a p]? = some (some v) ∧ hOf W wo a p = v := fun {a p} hu => by
    have hx := us_to o hu
    obtain ⟨v, hv⟩ := I.all hfd hx (usx_fn o hx)
    exact ⟨v, hv, by unfold hOf; rw [hv] <;> rfl⟩
  refine ⟨fun a nt hn hu => ?_, fun hu => ?_, fun a nt e hn he hu ho => ?_⟩
  · obtain ⟨v, hv, e⟩ := at_ hu
    rw [e]
    exact (I.i2 _ _ hv).2.en ((ends_mem o).mpr ⟨a, nt, hn, rfl⟩)
  · obtain ⟨v, hv, e⟩ := at_ hu
    rw [e]
    exact h0 v hv
  · obtain ⟨v, hv, ev⟩ := at_ hu
    obtain ⟨k, hk⟩ := List.getElem?_of_mem he
    have hy : (a, k, e) ∈ exOf W := by
      unfold exOf exUp
      refine List.mem_flatten.mpr ⟨_, List.mem_map.mpr ⟨a, List.mem_range.mpr (List.getElem?_eq_some_iff.mp hn).1, rfl⟩, List.mem_map.mpr ⟨(e, k), ?_, rfl⟩⟩
      have : edsN W a = nt.2 := by
        unfold edsN
        rw [hn]
        rfl
      rw [this]
      exact List.mem_zipIdx_iff_getElem?.mpr hk
    obtain ⟨v', g, s, h1, h2, h3, h4, h5⟩ := hE _ hy (us_to o hu) ((op_iff o hn he).mpr ho)
    have h1 : wo[spN W a e.p]? = some (some v') := h1
    have h2 : wo[spN W a e.t]? = some (some g) := h2
    obtain rfl := Option.some.inj (Option.some.inj (hv.symm.trans h1))
    have eg : hOf W wo a e.t = g := by unfold hOf; rw [h2] <;> rfl
    have es : hC (hOf W wo) e.c = s := by
      have h3 : (e.c.map fun c => stN W.ns c.toNat) = none → s = 0 := h3
      have h4 : ∀ c, (e.c.map fun c => stN W.ns c.toNat) = some c → wo[c]? = some (some s) := h4
      cases hc : e.c with
      | none => rw [hc] at h3; exact (h3 rfl).symm
      | some c =>
        rw [hc] at h4
        have := h4 _ rfl
        show hOf W wo c.toNat 0 = s
        unfold hOf
        rw [sp_c, this] <;> rfl
    show hOf W wo a e.p = _
    rw [ev, eg, es]
    exact h5
theorem WoI.fit {W : Web} {den : Int} {pr : List Int} {O : List Nat} {wo : List (Option Int)} {h : Nat → Int → Int} (o : OkW W) (I : WoI W den pr O O.length wo) (hfd : ∀ x, x ∈ O ↔ Fn (gesOf W) (endsOf W) x) (P : Pot W (cst den pr) h) {y : Nat × Nat × Ed} (hy : y ∈ exOf W) (hu : UsX W (geX W y).s) (ho : Op (gesOf W) (endsOf W) (geX W y)) : FitE W den pr wo y := by
  obtain ⟨nt, hyl, hnt, hye⟩ := ex_mem hy
  have hmem := List.mem_of_getElem? hye
  have hge : geX W y ∈ gesOf W := ges_mem.mpr ⟨y.1, nt, y.2.2, hyl, hnt, hmem, rfl⟩
  have hup : UsP W y.1 y.2.2.p := us_from o hu y.1 y.2.2.p (pl_p o hnt hmem) rfl
  have hopp : OpP W y.1 y.2.2 := (op_iff o hnt hmem).mp ho
  have hug := Us.goal hge hu ho
  obtain ⟨v, hv⟩ := I.all hfd hu (usx_fn o hu)
  obtain ⟨g, hg⟩ := I.all hfd hug (usx_fn o hug)
  have e1 := (I.i2 _ _ hv).2.un h P y.1 y.2.2.p (pl_p o hnt hmem) rfl
  have e2 := (I.i2 _ _ hg).2.un h P y.1 y.2.2.t (pl_t o hnt hmem) rfl
  have e3 := P.ed y.1 nt y.2.2 hnt hmem hup hopp
  cases hc : y.2.2.c with
  | none =>
    have hcc : (geX W y).c = none := by
      show (y.2.2.c.map fun c => stN W.ns c.toNat) = none
      rw [hc] <;> rfl
    rw [hc] at e3
    refine ⟨v, g, 0, hv, hg, fun _ => rfl, (fun c h => by rw [hcc] at h; cases h), ?_⟩
    rw [e1, e2, e3] <;> rfl
  | some c =>
    have hcc : (geX W y).c = some (stN W.ns c.toNat) := by
      show (y.2.2.c.map fun c => stN W.ns c.toNat) = _
      rw [hc] <;> rfl
    rw [hc] at e3
    have huc := Us.call hge hu ho hcc
    obtain ⟨s, hs⟩ := I.all hfd huc (usx_fn o huc)
    have e4 := (I.i2 _ _ hs).2.un h P c.toNat 0 (pl_c o hnt hmem hc) rfl
    refine ⟨v, g, s, hv, hg, (fun h => by rw [hcc] at h; cases h), (fun c' h => by rw [hcc] at h; obtain rfl := Option.some.inj h; exact hs), ?_⟩
    rw [e1, e2, e3, e4] <;> rfl
theorem WoI.vals {W : Web} {den : Int} {pr : List Int} {O : List Nat} {wo : List (Option Int)} (o : OkW W) (I : WoI W den pr O O.length wo) (hfd : ∀ x, x ∈ O ↔ Fn (gesOf W) (endsOf W) x) {y : Nat × Nat × Ed} (hy : y ∈ exOf W) (hu : UsX W (geX W y).s) (ho : Op (gesOf W) (endsOf W) (geX W y)) :
    ∃ v g s, wo[(geX W y).s]? = some (some v) ∧ wo[(geX W y).g]? = some (some g) ∧ ((geX W y).c = none → s = 0) ∧ (∀ c, (geX W y).c = some c → wo[c]? = some (some s)) := by
  obtain ⟨nt, hyl, hnt, hye⟩ := ex_mem hy
  have hge : geX W y ∈ gesOf W := ges_mem.mpr ⟨y.1, nt, y.2.2, hyl, hnt, List.mem_of_getElem? hye, rfl⟩
  have hug := Us.goal hge hu ho
  obtain ⟨v, hv⟩ := I.all hfd hu (usx_fn o hu)
  obtain ⟨g, hg⟩ := I.all hfd hug (usx_fn o hug)
  cases hc : (geX W y).c with
  | none => exact ⟨v, g, 0, hv, hg, fun _ => rfl, fun c h => by cases h⟩
  | some c =>
    have huc := Us.call hge hu ho hc
    obtain ⟨s, hs⟩ := I.all hfd huc (usx_fn o huc)
    exact ⟨v, g, s, hv, hg, (fun h => by cases h), fun c' h => by obtain rfl := Option.some.inj h; exact hs⟩
/-! #### how great heights may be -/
def BdH (W : Web) : Prop := ∀ (c : Ed → Int) (h : Nat → Int → Int) (M : Int), 0 ≤ M → Pot W c h → (∀ (a : Nat) (nt : Int × List Ed) (e : Ed), W.ns[a]? = some nt → e ∈ nt.2 → -M ≤ c e ∧ c e ≤ M) → ∀ (a : Nat) (p : Int), UsP W a p → -(2 ^ stN W.ns W.ns.length * M) ≤ h a p ∧ h a p ≤ 2 ^ stN W.ns W.ns.length * M
theorem pow_le {j i : Nat} (h : j ≤ i) : (2 : Int) ^ j ≤ 2 ^ i := by
  obtain ⟨k, rfl⟩ := Nat.exists_eq_add_of_le h
  rw [Int.pow_add]
  have h1 : (0 : Int) < 2 ^ j := Int.pow_pos (by decide)
  have h2 : (0 : Int) < 2 ^ k := Int.pow_pos (by decide)
  have := Int.mul_le_mul_of_nonneg_left (show (1 : Int) ≤ 2 ^ k by omega) (Int.le_of_lt h1)
  omega
theorem bd_of {W : Web} {O : List Nat} {ch : List (Option Nat)} (o : OkW W) (FI : FinI (stN W.ns W.ns.length) (gesOf W) (endsOf W) O ch) (hfd : ∀ x, x ∈ O ↔ Fn (gesOf W) (endsOf W) x) : BdH W := by
  intro c h M hM P hc
  have hlen : O.length ≤ stN W.ns W.ns.length := nodup_lt FI.nd FI.lt
  have key : ∀ (i x : Nat), O[i]? = some x → ∀ (a : Nat) (p : Int), Pl W a p → x = spN W a p → UsP W a p → -((2 ^ (i + 1) - 1) * M) ≤ h a p ∧ h a p ≤ (2 ^ (i + 1) - 1) * M := by
    intro i
    induction i using Nat.strongRecOn with
    | _ i ih =>
      intro x hx a p hp e hu
      have p1 : (1 : Int) ≤ 2 ^ i := by
        have : (0 : Int) < 2 ^ i := Int.pow_pos (by decide)
        omega
      have pe : (2 : Int) ^ (i + 1) = 2 * 2 ^ i := by rw [Int.pow_succ]; omega
      have m1 : 0 ≤ (2 ^ i - 1) * M := Int.mul_nonneg (by omega) hM
      have m2 : ((2 : Int) ^ (i + 1) - 1) * M = 2 * ((2 ^ i - 1) * M) + M := by
        rw [pe, show (2 : Int) * 2 ^ i - 1 = 2 * (2 ^ i - 1) + 1 by omega, Int.add_mul, Int.mul_assoc]
        omega
      rcases FI.ord i x hx with he | ⟨t, ge, h1, h2, h3, h4⟩
      · obtain ⟨b, nt, hb, e2⟩ := (ends_mem o).mp he
        obtain ⟨rfl, rfl⟩ := sp_inj hp (pl_end o hb) (e.symm.trans e2)
        rw [P.en a nt hb hu]
        omega
      · obtain ⟨y, hy, rfl⟩ := ge_ex h2
        obtain ⟨nt, hyl, hnt, hye⟩ := ex_mem (List.mem_of_getElem? hy)
        have hmem := List.mem_of_getElem? hye
        obtain ⟨rfl, rfl⟩ := sp_inj hp (pl_p o hnt hmem) (e.symm.trans h3.symm)
        have hopp : OpP W y.1 y.2.2 := (op_iff o hnt hmem).mp fun z hz => (hfd z).mp (List.mem_of_mem_take (h4 z hz))
        have need : ∀ z, z ∈ needs (geX W y) → ∀ (b : Nat) (q : Int), Pl W b q → z = spN W b q → UsP W b q → -((2 ^ i - 1) * M) ≤ h b q ∧ h b q ≤ (2 ^ i - 1) * M := fun z hz b q hq ez huq => by
          obtain ⟨j, hj⟩ := List.getElem?_of_mem (h4 z hz)
          have hjl := (List.getElem?_eq_some_iff.mp hj).1
          rw [List.length_take] at hjl
          rw [List.getElem?_take_of_lt (by omega)] at hj
          obtain ⟨q1, q2⟩ := ih j (by omega) z hj b q hq ez huq
          have h3 : (2 : Int) ^ (j + 1) ≤ 2 ^ i := pow_le (by omega)
          have h4 := Int.mul_le_mul_of_nonneg_right (show (2 : Int) ^ (j + 1) - 1 ≤ 2 ^ i - 1 by omega) hM
          omega
        have hcM := hc y.1 nt y.2.2 hnt hmem
        have g1 := need _ List.mem_cons_self y.1 y.2.2.t (pl_t o hnt hmem) rfl (.goal hnt hmem hu hopp)
        rw [P.ed y.1 nt y.2.2 hnt hmem hu hopp]
        have g2 : -((2 ^ i - 1) * M) ≤ hC h y.2.2.c ∧ hC h y.2.2.c ≤ (2 ^ i - 1) * M := by
          cases hcc : y.2.2.c with
          | none =>
            show -((2 ^ i - 1) * M) ≤ 0 ∧ 0 ≤ (2 ^ i - 1) * M
            omega
          | some c =>
            refine need (stN W.ns c.toNat) (List.mem_cons_of_mem _ ?_) c.toNat 0 (pl_c o hnt hmem hcc) rfl (.call hnt hmem hu hopp hcc)
            show _ ∈ (y.2.2.c.map fun c => stN W.ns c.toNat).toList
            rw [hcc]
            exact List.mem_singleton.mpr rfl
        omega
  intro a p hu
  have hx := us_to o hu
  obtain ⟨i, hi⟩ := List.getElem?_of_mem ((hfd _).mpr (usx_fn o hx))
  have hil := (List.getElem?_eq_some_iff.mp hi).1
  obtain ⟨h1, h2⟩ := key i _ hi a p (hu.pl o) rfl hu
  have h3 : (2 : Int) ^ (i + 1) ≤ 2 ^ stN W.ns W.ns.length := pow_le (by omega)
  have h4 := Int.mul_le_mul_of_nonneg_right (show (2 : Int) ^ (i + 1) - 1 ≤ 2 ^ stN W.ns W.ns.length by omega) hM
  omega
end K67

set_option Elab.async false
set_option linter.all false
set_option pp.maxSteps 900
set_option maxRecDepth 100000
set_option maxHeartbeats 4000000
namespace K67
open PySem PySem.Spec PyProof.Rows L2
open TL (tl)
theorem ChO.s {H : Hp} {C CE : Addr} {W : Web} {p dx cl da el sl dl ol ca cr ul : Addr} {ch : List (Option Nat)} {O us : List Nat} {xs : List V} {kvs cvs : List (Key × V)} {fs : List (Str × V)} (R : ChO H C CE W p dx cl da el sl dl ol ca cr ul ch O us xs kvs cvs fs) : ChS H C CE W p dx sl dl el ul cl us ch xs fs :=
  ⟨R.r.hp, R.r.ed, R.r.st, R.en, R.ud, R.r.f.choice, R.r.he, R.r.hx, R.r.hs, R.hd, R.hu, R.r.f.hc⟩
def spHO (C CE : Addr) : Sp := fun vs H Q _ => ∃ (p dx cl da el sl dl ol ca cr ul c : Addr) (ch : List (Option Nat)) (O us : List Nat) (xs : List V) (kvs cvs : List (Key × V)) (fs : List (Str × V)) (W : Web) (den : Int) (pr : List Int), vs = [.ref p, .int den, .ref c] ∧ ChO H C CE W p dx cl da el sl dl ol ca cr ul ch O us xs kvs cvs fs ∧ OkW W ∧
  H c = some (.tup (pr.map V.int)) ∧ pr.length = W.lb.toNat ∧ -(2 ^ 64) < den ∧ den < 2 ^ 64 ∧ ∀ (v : V) (H' : Hp), Same H H' → (∀ g', DV g' H' v (duD W den pr)) → BdH W → Q v H'
theorem oZ_inj {a b : Option Int} (h : oZ a = oZ b) : a = b := by
  cases a <;> cases b <;> first | rfl | cases h
  rfl
theorem rep_non : ∀ n : Nat, (List.replicate n [V.non]).flatten = (List.replicate n (none : Option Int)).map oZ
  | 0 => rfl
  | n + 1 => by
    rw [List.replicate_succ, List.flatten_cons, rep_non n, List.replicate_succ, List.map_cons]
    rfl
theorem wo_at {wo : List (Option Int)} {x : Nat} {v : Int} (h : wo[x]? = some (some v)) : (wo.map oZ)[x]? = some (.int v) := by
  rw [List.getElem?_map, h]
  rfl
section
variable {P : Program} {w : World} {K : PySem.W.Frag} {mg : Str → Option Value} {base : Heap}
theorem scHo : FnScope ["chart", "den", "prices", "costs", "worth", "spot", "at"] ["chart", "den", "prices"] (defScope sHO) := ⟨rfl, rfl, rfl, by decide +kernel, rfl, by decide +kernel, by decide +kernel⟩
theorem ok_ho {f C CE fIU fIF fIO fFi fRe : Addr} {fd fdIU : FuncData} (F : Fun K "heights_on" "heights_on" sHO f fd) (T : Bn mg) (CC : ChK K C fIU fIF fIO fFi fRe) (EE : ClA K CE eNames)
    (cCo : Cl P w K mg base "_costs" ["chart", "den", "prices"] 1 (spCo C CE)) (cCB : Cl P w K mg base "cost_behind" ["chart", "costs", "at", "worth"] 1 (spCB C CE)) (cNN : Cl P w K mg base "net_by_net" ["chart", "worth"] 1 (spNN C CE))
    (GIU : FnOk P w K mg base CX0 1 fIU fdIU ["self", "spot"] (spIU C)) (bIU : L2.Binds K fdIU ["self", "spot"] []) : FnOk P w K mg base CX0 2 f fd ["chart", "den", "prices"] (spHO C CE) := by
  obtain ⟨fCo, fdCo, GCo, mCo, kCo, bCo⟩ := cCo
  obtain ⟨fCB, fdCB, GCB, mCB, kCB, bCB⟩ := cCB
  obtain ⟨fNN, fdNN, GNN, mNN, kNN, bNN⟩ := cNN
  refine F.ok scHo (fun vs H Q E h => ?_) (fun cdv A outer s H vs Q E hr h => ?_)
  · obtain ⟨a1, a2, a3, a4, a5, a6, a7, a8, a9, a10, a11, a12, a13, a14, a15, a16, a17, a18, a19, a20, a21, a22, rfl, _⟩ := h
    rfl
  · obtain ⟨p, dx, cl, da, el, sl, dl, ol, ca, cr, ul, c, ch, O, us, xs, kvs, cvs, fs, W, den, pr, rfl, R, okw, hc, hpl, d0, d1, k⟩ := h
    have hst := st_le okw
    have S0 := R.s
    have FI := R.fi
    have hfd := R.fd
    have naC := fun (f : Str) (h : f ∈ cNames) => CC.a.na f h
    refine ⟨_, (pss_cons (ps_set (i := 3) scHo.nd rfl (Or.inr rfl) (pe_call GCo hr (by rfl) mCo kCo bCo .nil pass0 (pa_cons (pv 0) (pa_cons (pv 1) (pa_cons (pv 2) pa_nil)))))
      (pss_cons (ps_set (i := 4) scHo.nd rfl (Or.inr rfl) (pe_op op_rep (pe_lst (pa_cons pe_non pa_nil)) (pe_fld (pv 0) rfl)))
      (pss_cons (ps_for PassesOwn.never rfl (pi_list (pe_fld (pv 0) rfl)) (pg_name (i := 5) scHo.nd rfl (Or.inl rfl))
          (pss_one (ps_if (pt_val (pe_meth (pv 0) CC.a.cl CC.mIU GIU hr bIU .nil pass0 (pa_cons (pv 5) pa_nil))) (pss_cons (ps_set (i := 6) scHo.nd rfl (Or.inl rfl) (pe_ix ix_list (pe_fld (pv 0) rfl) (pv 5) (fun _ _ => rfl)))
              (pss_one (ps_asg (pe_ifExp (pt_cmpR op_isN (pv 6) pe_non (nomark _)) pe_int (pe_call GCB hr (by rfl) mCB kCB bCB .nil pass0 (pa_cons (pv 0) (pa_cons (pv 3) (pa_cons (pv 6) (pa_cons (pv 4) pa_nil)))))) (pg_sub (pv 4) (pv 5) set_list)))) pss_nil)))
      (pss_cons (ps_if (pt_cmpR op_notIn_seq (pe_ix ix_list (pv 4) (pe_ix ix_list (pe_fld (pv 0) rfl) pe_int (fun _ _ => rfl)) (fun _ _ => rfl)) (pe_tup (pa_cons pe_non (pa_cons pe_int pa_nil))) (by rfl)) (pss_one (ps_ret pe_non)) pss_nil)
      (pss_cons (ps_if (pt_truth (pe_lc (own := [("at", 6)]) (g := gName 6) (by rfl) scHo.nd (pi_list (pe_fld (pv 0) rfl)) (blkOk_by (own := [("at", 6)]) (N := ["chart", "den", "prices", "costs", "worth", "spot", "at"]) (sc := defScope sHO) (by decide +kernel)) (fun _ _ _ _ _ => (pg_name (i := 6) scHo.nd rfl (Or.inl rfl))) (fun _ _ _ _ _ => (pts_one (pt_cmpR op_ne (pe_ix (show IxR _ (rIxL K) from ix_list) (pv 4) (show PE _ _ (tFld K _ _) from pe_fld (pe_ix (show IxR _ (rIxL K) from ix_list) (show PE _ _ (tFld K _ _) from pe_fld (pv 0) rfl) (pv 6) (fun _ _ => rfl)) rfl) (fun _ _ => rfl)) (pe_call GCB hr (by rfl) mCB kCB bCB .nil pass0 (pa_cons (pv 0) (pa_cons (pv 3) (pa_cons (pv 6) (pa_cons (pv 4) pa_nil))))) (nomark _)))) (fun _ _ _ _ _ => (pv 6))) (fun _ => rfl)) (pss_one (ps_ret pe_non)) pss_nil)
      (pss_one (ps_ret (pe_call GNN hr (by rfl) mNN kNN bNN .nil pass0 (pa_cons (pv 0) (pa_cons (pv 4) pa_nil)))))))))), ?_⟩
    refine ⟨_, rfl, _, rfl, _, rfl, p, dx, sl, dl, el, ul, cl, c, us, ch, xs, fs, W, den, pr, rfl, S0, okw, hc, hpl, d0, d1, fun cs H1 s1 hcs ecs => ?_⟩
    refine ⟨(by show 1 ≤ sizeLine; decide), fun z1 hz1 => ?_⟩
    generalize hH2 : upd H1 z1 _ = H2
    obtain ⟨sz1, ez1⟩ := freshF hz1 hH2
    have s02 := s1.trans sz1
    refine ⟨_, rfl, p, C, dx, fs, _, rfl, s02 _ _ R.r.hp, CC.a.cl, naC "spot_count" (by decide +kernel), R.r.sc, ?_⟩
    generalize hN : stN W.ns W.ns.length = N at hst
    refine ⟨z1, (N : Nat), [.non], rfl, rfl, ez1, by omega, by omega, (by show 1 * ((N : Nat) : Int).toNat ≤ sizeLine; rw [sizeLine_eq]; omega), fun wl hwl => ?_⟩
    generalize hH3 : upd H2 wl _ = H3
    obtain ⟨swl, ewl⟩ := freshF hwl hH3
    have s03 := s02.trans swl
    have ecs3 := swl _ _ (sz1 _ _ ecs)
    have hwl0 : H wl = none := no_of s02 hwl
    have ncw : cs ≠ wl := ne_of_none (sz1 _ _ ecs) hwl
    have ewl3 : H3 wl = some (.lst ((List.replicate N (none : Option Int)).map oZ)) := by
      rw [ewl, Int.toNat_natCast]
      rw [rep_non]
    have I0 : WoI W den pr O 0 (List.replicate N none) := by
      refine ⟨by rw [List.length_replicate, hN], fun j x h => absurd h (Nat.not_lt_zero _), fun x v h => ?_⟩
      rw [List.getElem?_replicate] at h
      split at h
      · exact absurd (Option.some.inj h) (by simp)
      · cases h
    refine ⟨_, rfl, p, C, dx, fs, _, rfl, s03 _ _ R.r.hp, CC.a.cl, naC "order" (by decide +kernel), R.od, ol, rfl, ⟨_, SqL.of (s03 _ _ R.ho)⟩, ?_⟩
    have hOl : (O.map fun n => V.int (n : Nat)).length = O.length := List.length_map ..
    refine for_it (walk_list (K := K) (a := ol) (xs := O.map fun n => V.int (n : Nat))) (fun i σ H' => ∃ (wo : List (Option Int)) (v5 v6 : Option V), σ = [some (.ref p), some (.int den), some (.ref c), some (.ref cs), some (.ref wl), v5, v6] ∧ Same H H' ∧ H' cs = H3 cs ∧ H' wl = some (.lst (wo.map oZ)) ∧ WoI W den pr O i wo)
      ⟨_, _, _, rfl, s03, rfl, ewl3, I0⟩ (fun i σ H' _ ⟨_, _, _, _, s, _⟩ => SqL.of (s _ _ R.ho)) ?_ ?_
    · rintro i xv σ H4z H4 hi ⟨wo, v5, v6, rfl, s4, ecs4, ewl4, I⟩ ⟨rfl, hxv⟩
      have hxv : (O.map fun n => V.int (n : Nat))[i]? = some xv := hxv
      rw [ecs3] at ecs4
      rw [List.getElem?_map] at hxv
      obtain ⟨x, hx, rfl⟩ := Option.map_eq_some_iff.mp hxv
      have hxl : x < stN W.ns W.ns.length := FI.lt x (List.mem_of_getElem? hx)
      have hus : (valV kvs (kN x)).isSome = true ↔ UsX W x := R.re x
      have hwol : x < wo.length := by rw [I.ln]; exact hxl
      refine ⟨_, rfl, p, dx, fs, rfl, s4 _ _ R.r.hp, R.r.no "is_useful" (by decide +kernel), _, rfl, p, dx, ca, fs, kvs, x, rfl, s4 _ _ R.r.hp, R.r.ca_, s4 _ _ R.ha, _, rfl, ?_⟩
      cases hb : (valV kvs (kN x)).isSome with
      | false =>
        refine ifF hb ⟨wo, _, _, rfl, s4, by rw [ecs4, ecs3], ewl4, I.skip hx fun z => ?_⟩
        rw [hus.mpr z] at hb
        cases hb
      | true =>
      have hux := hus.mp hb
      have hchl : x < ch.length := by rw [FI.cl]; exact hxl
      have hchx : ch[x]? = some (ch[x]'hchl) := List.getElem?_eq_getElem hchl
      generalize ch[x]'hchl = c0 at hchx
      refine ifT hb ⟨_, rfl, p, C, dx, fs, _, rfl, s4 _ _ R.r.hp, CC.a.cl, naC "choice" (by decide +kernel), R.r.f.choice, _, rfl, cl, _, (x : Nat), oN c0, rfl, rfl, SqL.of (s4 _ _ R.r.f.hc), atI_nat (by rw [List.getElem?_map, hchx] <;> rfl), ?_⟩
      have fin : ∀ v : Int, GV W den pr x v → ∃ (wo' : List (Option Int)) (u5 u6 : Option V), ([some (V.ref p), some (.int den), some (.ref c), some (.ref cs), some (.ref wl), some (.int (x : Nat)), some (oN c0)] : L2.St) = [some (.ref p), some (.int den), some (.ref c), some (.ref cs), some (.ref wl), u5, u6] ∧ Same H (upd H4 wl (.lst ((wo.map oZ).set x (.int v)))) ∧ (upd H4 wl (.lst ((wo.map oZ).set x (.int v)))) cs = H3 cs ∧ (upd H4 wl (.lst ((wo.map oZ).set x (.int v)))) wl = some (.lst (wo'.map oZ)) ∧ WoI W den pr O (i + 1) wo' := fun v gv => by
        refine ⟨wo.set x (some v), _, _, rfl, fun b o eb => ?_, ?_, ?_, I.set hx hxl hux gv⟩
        · rw [upd_ne (ne_of_none eb hwl0)]
          exact s4 _ _ eb
        · rw [upd_ne ncw, ecs4, ecs3]
        · rw [upd_same, List.map_set]
          rfl
      cases c0 with
      | none =>
        refine ⟨_, rfl, rfl, _, rfl, ifT rfl ⟨_, rfl, _, rfl, wl, _, (x : Nat), x, rfl, rfl, ewl4, ixN_at (by rw [List.length_map]; exact hwol), fin 0 ?_⟩⟩
        have hxe : x ∈ endsOf W := by
          rcases FI.ord i x hx with h | ⟨t, e, h1, _⟩
          · exact h
          · rw [hchx] at h1
            cases h1
        obtain ⟨a, nt, hn, rfl⟩ := (ends_mem okw).mp hxe
        refine ⟨fun _ => rfl, fun h Ph b q hq e => ?_⟩
        obtain ⟨rfl, rfl⟩ := sp_inj hq (pl_end okw hn) e.symm
        exact (Ph.en b nt hn (us_from okw hux _ _ (pl_end okw hn) rfl)).symm
      | some t =>
        rcases FI.ord i x hx with h | ⟨t', e, h1, h2, h3, h4⟩
        · rw [FI.no x h] at hchx
          cases hchx
        · rw [hchx] at h1
          obtain rfl := Option.some.inj (Option.some.inj h1)
          obtain ⟨y, hy, rfl⟩ := ge_ex h2
          obtain ⟨g, sv, q1, q2, q3, q4⟩ := I.step okw FI hfd hx hux hchx hy h3 h4
          refine ⟨_, rfl, rfl, _, rfl, ifF rfl ⟨_, rfl, _, rfl, _, rfl, _, rfl, p, dx, sl, dl, el, ul, cl, cs, wl, us, ch, xs, fs, W, den, pr, _, t, y, g, sv, rfl, S0.keep s4, ecs4, ewl4, hy, wo_at q1, q2, fun c' hc' => wo_at (q3 c' hc'), ?_⟩⟩
          exact ⟨_, rfl, _, rfl, wl, _, (x : Nat), x, rfl, rfl, ewl4, ixN_at (by rw [List.length_map]; exact hwol), fin _ q4⟩
    rintro σ H4 ⟨wo, v5, v6, rfl, s4, ecs4, ewl4, I⟩
    rw [ecs3] at ecs4
    rw [hOl] at I
    have hn1 := okw.n1
    have hN0 : 0 < N := by
      have h1 := (pl_0 okw).lt
      have h2 : stN W.ns (0 + 1) ≤ stN W.ns W.ns.length := st_mono (by omega)
      rw [hN] at h2
      exact Nat.lt_of_le_of_lt (Nat.zero_le _) (Nat.lt_of_lt_of_le h1 h2)
    have hw0 : 0 < wo.length := by rw [I.ln, hN]; exact hN0
    have hwx : wo[0]? = some (wo[0]'hw0) := List.getElem?_eq_getElem hw0
    generalize wo[0]'hw0 = o0 at hwx
    refine ⟨_, rfl, _, rfl, p, C, dx, fs, _, rfl, s4 _ _ R.r.hp, CC.a.cl, naC "starts" (by decide +kernel), R.r.st, sl, _, (0 : Nat), .int (stN W.ns 0 : Nat), rfl, rfl, SqL.of (s4 _ _ R.r.hs), atI_nat (sts_at (by omega)), wl, _, (0 : Nat), oZ o0, rfl, rfl, SqL.of ewl4, atI_nat (by rw [List.getElem?_map, hwx] <;> rfl), (by show 2 ≤ sizeLine; decide), fun t ht => ?_⟩
    generalize hH5 : upd H4 t _ = H5
    obtain ⟨st, et⟩ := freshF ht hH5
    have s05 := s4.trans st
    have ewl5 := st _ _ ewl4
    have ecs5 := st _ _ ecs4
    refine ⟨t, _, rfl, .inr (SqT.of et), (by cases o0 <;> rfl), rfl, _, rfl, ?_⟩
    have bd : BdH W := bd_of okw FI hfd
    by_cases h0 : ∃ v, o0 = some v ∧ v ≠ 0
    · obtain ⟨v, rfl, hv⟩ := h0
      have hin : inV (oZ (some v)) [V.non, .int 0] = false := by
        show (eqV .non (.int v) || (eqV (.int 0) (.int v) || false)) = false
        have : eqV (.int 0) (.int v) = false := by
          show decide ((0 : Int) = v) = false
          exact decide_eq_false (fun e => hv e.symm)
        rw [this] <;> rfl
      have no : ¬ ∃ h, Pot W (cst den pr) h := fun ⟨h, Ph⟩ => hv (by
        obtain ⟨hu0, gv⟩ := I.i2 0 v hwx
        rw [gv.un h Ph 0 0 (pl_0 okw) rfl]
        exact Ph.st (us_from okw hu0 0 0 (pl_0 okw) rfl))
      exact ifT (by rw [hin] <;> rfl) (k .non H5 s05 (fun g' => by rw [duD_no no]; exact .non) bd)
    have h00 : ∀ v, wo[0]? = some (some v) → v = 0 := fun v hv => by
      rw [hwx] at hv
      refine Classical.byContradiction fun hn => h0 ⟨v, Option.some.inj hv, hn⟩
    have hin : inV (oZ o0) [V.non, .int 0] = true := by
      cases o0 with
      | none => rfl
      | some v =>
        obtain rfl := h00 v hwx
        rfl
    refine ifF (by rw [hin] <;> rfl) ?_
    refine ⟨_, rfl, p, C, dx, fs, _, rfl, s05 _ _ R.r.hp, CC.a.cl, naC "used" (by decide +kernel), R.ud, ul, rfl, ⟨_, SqL.of (s05 _ _ R.hu)⟩, fun D hD => ?_⟩
    have hul : (us.map fun n => V.int (n : Nat)).length = us.length := List.length_map ..
    have husl : us.length ≤ 8000 := by
      have h1 := ges_len okw
      have h2 : us.length ≤ (gesOf W).length := nodup_lt (R.up.imp fun h => Nat.ne_of_lt h) fun a ha => by
        obtain ⟨e, he, _⟩ := (R.um a).mp ha
        exact (List.getElem?_eq_some_iff.mp he).1
      omega
    refine lc_it (walk_list (K := K) (a := ul) (xs := us.map fun n => V.int (n : Nat))) (fun i H' => ∃ acc : List V, H' D = some (.lst acc) ∧ acc.length ≤ i ∧ Same H5 H' ∧ (acc = [] → ∀ t ∈ us.take i, ∀ y, (exOf W)[t]? = some y → FitE W den pr wo y) ∧ (acc ≠ [] → ∃ y ∈ exOf W, UsX W (geX W y).s ∧ Op (gesOf W) (endsOf W) (geX W y) ∧ ¬ FitE W den pr wo y))
      ⟨[], upd_same, Nat.zero_le _, same_new hD, (fun _ t h => by cases h), fun h => absurd rfl h⟩ (fun _ _ _ ⟨_, _, _, s, _⟩ => SqL.of (s _ _ (s05 _ _ R.hu))) ?_ ?_
    · rintro i xv H6z H6 hi ⟨acc, e6, hal, s6, ha0, ha1⟩ ⟨rfl, hxv⟩
      have hxv : (us.map fun n => V.int (n : Nat))[i]? = some xv := hxv
      rw [List.getElem?_map] at hxv
      obtain ⟨u, hu, rfl⟩ := Option.map_eq_some_iff.mp hxv
      obtain ⟨ge, hge, hus, hop⟩ := (R.um u).mp (List.mem_of_getElem? hu)
      obtain ⟨y, hy, rfl⟩ := ge_ex hge
      obtain ⟨v, g, sv, q0, q1, q2, q3⟩ := I.vals okw hfd (List.mem_of_getElem? hy) hus hop
      have fitI : FitE W den pr wo y ↔ v = cst den pr y.2.2 + g + sv := by
        constructor
        · rintro ⟨v', g', s', f0, f1, f2, f3, f4⟩
          obtain rfl := Option.some.inj (Option.some.inj (q0.symm.trans f0))
          obtain rfl := Option.some.inj (Option.some.inj (q1.symm.trans f1))
          have : sv = s' := by
            cases hc : (geX W y).c with
            | none => rw [q2 hc, f2 hc]
            | some c => exact Option.some.inj (Option.some.inj ((q3 c hc).symm.trans (f3 c hc)))
          rw [this]
          exact f4
        · exact fun e => ⟨v, g, sv, q0, q1, q2, q3, e⟩
      have s06 := s05.trans s6
      obtain ⟨q, hq, dxe, fse, hqe, efs⟩ := S0.hx.2 u y hy
      have naE := fun (f : Str) (h : f ∈ eNames) => EE.na f h
      refine ⟨(by rfl), ?_⟩
      refine ⟨_, rfl, _, rfl, p, C, dx, fs, _, rfl, s06 _ _ R.r.hp, CC.a.cl, naC "edges" (by decide +kernel), R.r.ed, _, rfl, el, xs, (u : Nat), .ref q, rfl, rfl, SqL.of (s06 _ _ R.r.he), atI_nat hq, q, CE, dxe, fse, _, rfl, s06 _ _ hqe, EE.cl, naE "spot" (by decide +kernel), efs.spot, wl, _, ((geX W y).s : Nat), .int v, rfl, rfl, SqL.of (s6 _ _ ewl5), atI_nat (wo_at q0), ?_⟩
      refine ⟨_, rfl, _, rfl, _, rfl, _, rfl, p, dx, sl, dl, el, ul, cl, cs, wl, us, ch, xs, fs, W, den, pr, _, u, y, g, sv, rfl, S0.keep s06, s6 _ _ ecs5, s6 _ _ ewl5, hy, wo_at q1, q2, fun c' hc' => wo_at (q3 c' hc'), rfl, _, rfl, ?_⟩
      by_cases hv : v = cst den pr y.2.2 + g + sv
      · refine ifF ?_ ⟨acc, e6, by omega, s6, fun h0 t ht z hz => ?_, ha1⟩
        · rw [hv, decide_eq_true rfl] <;> rfl
        · rw [List.take_succ, hu] at ht
          rcases List.mem_append.mp ht with ht | ht
          · exact ha0 h0 t ht z hz
          · obtain rfl := List.mem_singleton.mp ht
            obtain rfl := Option.some.inj (hy.symm.trans hz)
            exact fitI.mpr hv
      · refine ifT ?_ ⟨_, rfl, acc, e6, by have hi' : i < (us.map fun n => V.int (n : Nat)).length := hi; rw [hul] at hi'; rw [sizeLine_eq]; omega, acc ++ [.int (u : Nat)], upd_same, by rw [List.length_append]; show acc.length + 1 ≤ _; omega, fun b o eb => ?_, fun h => ?_, fun _ => ⟨y, List.mem_of_getElem? hy, hus, hop, fun h => hv (fitI.mp h)⟩⟩
        · rw [decide_eq_false (fun z => hv (V.int.inj z))] <;> rfl
        · rw [upd_ne (ne_of_none eb hD)]
          exact s6 _ _ eb
        · cases acc <;> cases h
    rintro H6 ⟨acc, e6, hal, s6, ha0, ha1⟩
    rw [hul, List.take_length] at ha0
    have s06 := s05.trans s6
    refine ⟨_, .inl ⟨acc, SqL.of e6, rfl⟩, ?_⟩
    by_cases hacc : acc = []
    · subst hacc
      refine ifF rfl ?_
      have Ph : Pot W (cst den pr) (hOf W wo) := I.pot okw hfd h00 fun y hy hu ho => by
        obtain ⟨t, ht⟩ := List.getElem?_of_mem hy
        exact ha0 rfl t ((R.um t).mpr ⟨_, ex_ge ht, hu, ho⟩) y ht
      refine ⟨_, rfl, _, rfl, p, dx, sl, dl, el, ul, cl, wl, us, ch, xs, fs, W, hOf W wo, wo.map oZ, rfl, S0.keep s06, okw, s6 _ _ ewl5, by rw [List.length_map]; exact I.ln, fun a nt q hn hq => ?_, fun D2 H7 s7 hdv => k _ H7 (s06.trans s7) (fun g' => ?_) bd⟩
      · have npos := okw.pos nt (List.mem_of_getElem? hn)
        have hpl : Pl W a ((q : Nat) : Int) := ⟨nt, hn, by omega, by omega⟩
        have hsp : stN W.ns a + q = spN W a ((q : Nat) : Int) := rfl
        rw [hsp, List.getElem?_map]
        unfold vH
        by_cases hu : usB W a ((q : Nat) : Int) = true
        · have hup := usB_iff.mp hu
          have hx := us_to okw hup
          obtain ⟨v, hv⟩ := I.all hfd hx (usx_fn okw hx)
          rw [if_pos hu, hv]
          unfold hOf
          rw [hv] <;> rfl
        · rw [if_neg hu]
          have hlt : spN W a ((q : Nat) : Int) < wo.length := by
            rw [I.ln]
            exact Nat.lt_of_lt_of_le hpl.lt (st_mono (List.getElem?_eq_some_iff.mp hn).1)
          have hx : wo[spN W a ((q : Nat) : Int)]? = some (wo[spN W a ((q : Nat) : Int)]'hlt) := List.getElem?_eq_getElem hlt
          generalize wo[spN W a ((q : Nat) : Int)]'hlt = o1 at hx
          rw [hx]
          cases o1 with
          | none => rfl
          | some v => exact absurd (usB_iff.mpr (us_from okw (I.i2 _ _ hx).1 a _ hpl rfl)) hu
      · rw [duD_of okw hpl Ph]
        exact hdv g'
    · obtain ⟨y, hy, hu, ho, hn⟩ := ha1 hacc
      have no : ¬ ∃ h, Pot W (cst den pr) h := fun ⟨h, Ph⟩ => hn (I.fit okw hfd Ph hy hu ho)
      refine ifT ?_ (k .non H6 s06 (fun g' => by rw [duD_no no]; exact .non) bd)
      cases acc with
      | nil => exact absurd rfl hacc
      | cons a l => rfl
end
end K67

set_option Elab.async false
set_option linter.all false
set_option pp.maxSteps 900
set_option maxRecDepth 100000
set_option maxHeartbeats 4000000
namespace K67
open PySem PySem.Spec PyProof.Rows L2
open TL (tl)
def spHe (C1 C2 C3 : Addr) : Sp := fun vs H Q Ex => ∃ (g : Addr) (vw vd vp : V) (dw dd dp : Dt), vs = [vw, vd, vp] ∧ DV g H vw dw ∧ DV g H vd dd ∧ DV g H vp dp ∧ (webB dw = false → ∀ H', Same H H' → Ex (.ref C1) none H') ∧ (∀ W, dw = wbD W → OkW W → denB dd = false → ∀ H', Same H H' → Ex (.ref C2) none H') ∧
  (∀ W, dw = wbD W → OkW W → denB dd = true → priB W.lb.toNat dp = false → ∀ H', Same H H' → Ex (.ref C3) none H') ∧
  (∀ W den pr, dw = wbD W → OkW W → dd = .int den → 1 ≤ den → dp = .tup (pr.map Dt.int) → pr.length = W.lb.toNat → den < 2 ^ 64 ∧ ∀ (v : V) (H' : Hp), Same H H' → (∀ g', DV g' H' v (duD W den pr)) → BdH W → Q v H')
theorem pri_dec {n : Nat} {d : Dt} (h : priB n d = true) : ∃ pr : List Int, d = .tup (pr.map Dt.int) ∧ pr.length = n := by
  cases d with
  | tup l =>
    have h : (decide (l.length = n) && l.all isInt) = true := h
    rw [Bool.and_eq_true] at h
    have h1 := of_decide_eq_true h.1
    have h2 := List.all_eq_true.mp h.2
    have : ∀ l : List Dt, (∀ x ∈ l, isInt x = true) → ∃ pr : List Int, l = pr.map Dt.int := by
      intro l
      induction l with
      | nil => intro _; exact ⟨[], rfl⟩
      | cons x l ih =>
        intro h
        obtain ⟨pr, rfl⟩ := ih fun y hy => h y (List.mem_cons_of_mem _ hy)
        have hx := h x List.mem_cons_self
        cases x with
        | int i => exact ⟨i :: pr, rfl⟩
        | _ => cases hx
    obtain ⟨pr, rfl⟩ := this l h2
    exact ⟨pr, rfl, by rw [← h1, List.length_map]⟩
  | _ => cases h
theorem ints_inv {g : Addr} {H : Hp} : ∀ {xs : List V} {l : List Int}, DVs g H xs (l.map Dt.int) → xs = l.map V.int
  | _, [], h => by
    cases h
    rfl
  | _, i :: l, h => by
    cases h with
    | cons h r =>
      obtain rfl := h.int_inv
      rw [ints_inv r] <;> rfl
section
variable {P : Program} {w : World} {K : PySem.W.Frag} {mg : Str → Option Value} {base : Heap}
theorem scHe : FnScope ["web", "den", "prices"] ["web", "den", "prices"] (defScope sHe) := ⟨rfl, rfl, rfl, by decide +kernel, rfl, by decide +kernel, by decide +kernel⟩
theorem ok_he {f C1 C2 C3 C CE fIU fIF fIO fFi fRe fCI : Addr} {fd fdCI : FuncData} (F : Fun K "heights" "heights" sHe f fd) (T : Bn mg) (R2 : Er K mg "BadDen" C2) (R3 : Er K mg "BadPrices" C3) (cNeed : ClX (L2.CX P w) P w K mg base "need_web" ["web"] 5 (spNeed C1)) (CC : ChK K C fIU fIF fIO fFi fRe) (hCE : C ≠ CE)
    (mCh : mg "Chart" = some (.ref C)) (MC : Mk K C fCI) (GCI : FnOk P w K mg base CX0 4 fCI fdCI ["self", "web"] (spCI C CE)) (bCI : L2.Binds K fdCI ["self", "web"] [])
    (cDn : Cl P w K mg base "_is_den" ["value"] 2 (spAsk denB)) (cAP : Cl P w K mg base "_are_prices" ["web", "value"] 2 spAP) (cHO : Cl P w K mg base "heights_on" ["chart", "den", "prices"] 2 (spHO C CE)) : FnOk P w K mg base (L2.CX P w) 6 f fd ["web", "den", "prices"] (spHe C1 C2 C3) := by
  obtain ⟨fNeed, fdNeed, GNeed, mNeed, kNeed, bNeed⟩ := cNeed
  obtain ⟨fDn, fdDn, GDn, mDn, kDn, bDn⟩ := cDn
  obtain ⟨fAP, fdAP, GAP, mAP, kAP, bAP⟩ := cAP
  obtain ⟨fHO, fdHO, GHO, mHO, kHO, bHO⟩ := cHO
  refine F.okX scHe (fun vs H Q E h => ?_) (fun cdv A outer s H vs Q Ex hr h => ?_)
  · obtain ⟨g, a, b, c, d, e, i, rfl, _⟩ := h
    rfl
  · obtain ⟨g, vw, vd, vp, dw, dd, dp, rfl, hw, hd, hp, k1, k2, k3, k4⟩ := h
    have hr2 : Room 2 _ := hr.mono (by decide)
    have hr5 : Room 5 _ := hr.mono (by decide)
    refine ⟨_, (pss_cons (ps_expr (pe_call GNeed hr5 (by rfl) mNeed kNeed bNeed .nil (passes_call (takes_of rfl rfl rfl rfl) (fun _ _ _ _ h => h)) (pa_cons (pv 0) pa_nil)))
      (pss_cons (ps_if (pt_not (pt_val (pe_call GDn hr2 (by rfl) mDn kDn bDn .nil pass0 (pa_cons (pv 1) pa_nil)))) (pss_one (ps_raise rfl (takes_of rfl rfl rfl rfl) (pmk_own PySem.F.excBase_ValueError R2.exI R2.mC R2.kC (raises_own R2.sub R2.ty) (by rfl)))) pss_nil)
      (pss_cons (ps_if (pt_not (pt_val (pe_call GAP hr2 (by rfl) mAP kAP bAP .nil pass0 (pa_cons (pv 0) (pa_cons (pv 2) pa_nil))))) (pss_one (ps_raise rfl (takes_of rfl rfl rfl rfl) (pmk_own PySem.F.excBase_ValueError R3.exI R3.mC R3.kC (raises_own R3.sub R3.ty) (by rfl)))) pss_nil)
      (pss_one (ps_ret (pe_call GHO hr2 (by rfl) mHO kHO bHO .nil pass0 (pa_cons (pe_make MC GCI hr5 (by rfl) mCh bCI .nil pass0 (pa_cons (pv 0) pa_nil)) (pa_cons (pv 1) (pa_cons (pv 2) pa_nil))))))))), ?_⟩
    refine ⟨_, rfl, g, vw, dw, rfl, hw, fun hb H1 s1 => ?_, fun hb H1 s1 => k1 hb H1 s1⟩
    obtain ⟨W, rfl, okw⟩ := web_dec hb
    refine ⟨_, rfl, g, vd, dd, rfl, hd.keep (Kv.of s1), fun H2 s2 => ⟨_, rfl, ?_⟩⟩
    have s02 := s1.trans s2
    cases hdb : denB dd with
    | false => exact ifT rfl (k2 W rfl okw hdb H2 s02)
    | true =>
    refine ifF rfl ⟨_, rfl, _, rfl, g, vw, vp, W, dp, rfl, hw.keep (Kv.of s02), okw, hp.keep (Kv.of s02), fun H3 s3 => ⟨_, rfl, ?_⟩⟩
    have s03 := s02.trans s3
    cases hpb : priB W.lb.toNat dp with
    | false => exact ifT rfl (k3 W rfl okw hdb hpb H3 s03)
    | true =>
    obtain ⟨pr, rfl, hpl⟩ := pri_dec hpb
    obtain ⟨den, rfl, hd1⟩ : ∃ den, dd = .int den ∧ 1 ≤ den := by
      cases dd with
      | int i => exact ⟨i, rfl, of_decide_eq_true hdb⟩
      | _ => cases hdb
    obtain ⟨d1, k⟩ := k4 W den pr rfl okw rfl hd1 rfl hpl
    obtain rfl := hd.int_inv
    obtain ⟨c, xp, rfl, ec, hxl, rr⟩ := hp.tup_inv
    obtain rfl := ints_inv rr
    refine ifF rfl ⟨_, rfl, fun p dx hp0 hdx hne => ?_⟩
    have s4 : Same H3 (upd (upd H3 dx (.own p)) p (.ins C dx [])) := fun b o eb => by
      rw [upd_ne (ne_of_none eb hp0), upd_ne (ne_of_none eb hdx)]
      exact eb
    refine ⟨g, p, dx, _, W, rfl, upd_same, hw.keep (Kv.of (s03.trans s4)), okw, hCE, fun H5 cl da el sl dl ol ca cr ul ch O us xs kvs cvs fs f5 R => ⟨rfl, ?_⟩⟩
    have s35 : Same H3 H5 := fun b o eb => f5 _ _ (s4 _ _ eb) (ne_of_none eb hp0)
    have s05 := s03.trans s35
    exact ⟨_, rfl, _, rfl, p, dx, cl, da, el, sl, dl, ol, ca, cr, ul, c, ch, O, us, xs, kvs, cvs, fs, W, den, pr, rfl, R, okw, s05 _ _ ec, hpl, by omega, d1, fun v H6 s6 hv bd => k v H6 (s05.trans s6) hv bd⟩
end
end K67

set_option Elab.async false
set_option linter.all false
set_option pp.maxSteps 900
set_option maxRecDepth 100000
set_option maxHeartbeats 4000000
namespace K67
open PySem PySem.Spec PyProof.Rows L2
/-! ### planted webs (mathematics) -/
def tlv (L : List (List Int)) (a : Nat) (p : Int) : Int := (L.getD a []).getD p.toNat 0
def lsum (K : List Int) (l : List Int) : Int := (l.map fun k => K.getD k.toNat 0).sum
def plE (K : List Int) (L : List (List Int)) (many : Int) (a : Nat) (e : Ed) : Ed := ⟨e.p, e.t, e.c, tlv L a e.p - tlv L a e.t + lsum K e.l - hC (tlv L) e.c, (List.replicate many.toNat e.l).flatten⟩
def plN (K : List Int) (L : List (List Int)) (many : Int) (a : Nat) (nt : Int × List Ed) : Int × List Ed := (nt.1, nt.2.map (plE K L many a))
def plW (K : List Int) (L : List (List Int)) (many : Int) (W : Web) : Web := ⟨W.lb, W.ns.mapIdx (plN K L many)⟩
/-- the webs of the law -/
structure DrX (W : Web) : Prop where
  ok : OkW W
  lb : W.lb ≤ 5
  n : W.ns.length ≤ 4
  p : ∀ n ∈ W.ns, n.1 ≤ 5
  e : ∀ n ∈ W.ns, n.2.length ≤ 7
theorem DrW.x {W : Web} (h : DrW W) : DrX W := ⟨h.ok, h.lb, h.n, h.p, h.e⟩
theorem drx_of {lb : Int} {ns : List (Int × List Ed)} (hl : 0 ≤ lb ∧ lb ≤ 5) (h1 : 1 ≤ ns.length) (h4 : ns.length ≤ 4) (hp : ∀ n ∈ ns, 1 ≤ n.1 ∧ n.1 ≤ 5 ∧ n.2.length ≤ 7) (he : ∀ n ∈ ns, ∀ e ∈ n.2, OkE n.1 ns.length lb e) : DrX ⟨lb, ns⟩ := by
  have hs1 : (ns.map (·.1)).sum ≤ 4000 := by
    have := sum_le (l := ns.map (·.1)) (b := 5) fun x hx => by
      obtain ⟨n, hn, rfl⟩ := List.mem_map.mp hx
      exact (hp n hn).2.1
    rw [List.length_map] at this
    omega
  have hs2 : (ns.map fun n => (n.2.length : Int)).sum ≤ 8000 := by
    have := sum_le (l := ns.map fun n => (n.2.length : Int)) (b := 7) fun x hx => by
      obtain ⟨n, hn, rfl⟩ := List.mem_map.mp hx
      have := (hp n hn).2.2
      show (n.2.length : Int) ≤ 7
      omega
    rw [List.length_map] at this
    omega
  exact ⟨⟨⟨hl.1, by show lb ≤ 4000; omega⟩, h1, by show ns.length ≤ 400; omega, fun n hn => (hp n hn).1, hs1, hs2, he⟩, hl.2, h4, fun n hn => (hp n hn).2.1, fun n hn => (hp n hn).2.2⟩
structure PlI (W : Web) (K : List Int) (L : List (List Int)) : Prop where
  kl : K.length = W.lb.toNat
  kb : ∀ k ∈ K, -1000 ≤ k ∧ k ≤ 1000
  tb : ∀ l ∈ L, ∀ x ∈ l, -100 ≤ x ∧ x ≤ 100
  en : ∀ (a : Nat) (nt : Int × List Ed), W.ns[a]? = some nt → tlv L a (nt.1 - 1) = 0
  st : tlv L 0 0 = 0
section
variable {W : Web} {K : List Int} {L : List (List Int)} {many : Int}
theorem tlv_b (h : ∀ l ∈ L, ∀ x ∈ l, -100 ≤ x ∧ x ≤ 100) (a : Nat) (p : Int) : -100 ≤ tlv L a p ∧ tlv L a p ≤ 100 := by
  unfold tlv
  rw [List.getD_eq_getElem?_getD, List.getD_eq_getElem?_getD]
  cases h1 : L[a]? with
  | none =>
    show -100 ≤ (([] : List Int)[p.toNat]?).getD 0 ∧ (([] : List Int)[p.toNat]?).getD 0 ≤ 100
    rw [List.getElem?_nil]
    decide
  | some l =>
    show -100 ≤ (l[p.toNat]?).getD 0 ∧ (l[p.toNat]?).getD 0 ≤ 100
    cases h2 : l[p.toNat]? with
    | none => decide
    | some x => exact h l (List.mem_of_getElem? h1) x (List.mem_of_getElem? h2)
theorem hC_b (h : ∀ l ∈ L, ∀ x ∈ l, -100 ≤ x ∧ x ≤ 100) (o : Option Int) : -100 ≤ hC (tlv L) o ∧ hC (tlv L) o ≤ 100 := by
  cases o with
  | none => show (-100 : Int) ≤ 0 ∧ (0 : Int) ≤ 100; decide
  | some c => exact tlv_b h _ _
theorem kget_b (h : ∀ k ∈ K, -1000 ≤ k ∧ k ≤ 1000) (i : Nat) : -1000 ≤ K.getD i 0 ∧ K.getD i 0 ≤ 1000 := by
  rw [List.getD_eq_getElem?_getD]
  cases h2 : K[i]? with
  | none => decide
  | some x => exact h x (List.mem_of_getElem? h2)
theorem lsum_b (h : ∀ k ∈ K, -1000 ≤ k ∧ k ≤ 1000) : ∀ l : List Int, -(1000 * (l.length : Int)) ≤ lsum K l ∧ lsum K l ≤ 1000 * (l.length : Int)
  | [] => by
    show -(1000 * (0 : Int)) ≤ 0 ∧ (0 : Int) ≤ 1000 * 0
    decide
  | x :: l => by
    have ih := lsum_b h l
    have hx := kget_b h x.toNat
    show -(1000 * (((l.length + 1 : Nat)) : Int)) ≤ K.getD x.toNat 0 + lsum K l ∧ K.getD x.toNat 0 + lsum K l ≤ 1000 * ((l.length + 1 : Nat) : Int)
    omega
theorem lsum_app (l m : List Int) : lsum K (l ++ m) = lsum K l + lsum K m := by
  unfold lsum
  rw [List.map_append, List.sum_append]
theorem lsum_rep (l : List Int) : ∀ n : Nat, lsum K (List.replicate n l).flatten = (n : Int) * lsum K l
  | 0 => by
    show (0 : Int) = ((0 : Nat) : Int) * _
    omega
  | n + 1 => by
    rw [List.replicate_succ, List.flatten_cons, lsum_app, lsum_rep l n, Int.natCast_add, Int.add_mul]
    omega
theorem pl_at {a : Nat} {nt : Int × List Ed} (h : (plW K L many W).ns[a]? = some nt) : ∃ nt0, W.ns[a]? = some nt0 ∧ nt = plN K L many a nt0 := by
  have h : (W.ns.mapIdx (plN K L many))[a]? = some nt := h
  rw [List.getElem?_mapIdx] at h
  obtain ⟨nt0, h1, h2⟩ := Option.map_eq_some_iff.mp h
  exact ⟨nt0, h1, h2.symm⟩
theorem pl_drx (d : DrW W) (I : PlI W K L) (hm : many = 1 ∨ many = 2) : DrX (plW K L many W) := by
  have hlb := d.ok.lb
  have hlen : (W.ns.mapIdx (plN K L many)).length = W.ns.length := List.length_mapIdx
  refine drx_of ⟨hlb.1, d.lb⟩ (by rw [hlen]; exact d.ok.n1) (by rw [hlen]; exact d.n) (fun n hn => ?_) (fun n hn e he => ?_)
  · obtain ⟨a, ha⟩ := List.getElem?_of_mem hn
    obtain ⟨nt, h1, rfl⟩ := pl_at (W := W) ha
    have hm' := List.mem_of_getElem? h1
    exact ⟨d.ok.pos nt hm', d.p nt hm', by show (nt.2.map _).length ≤ 7; rw [List.length_map]; exact d.e nt hm'⟩
  · obtain ⟨a, ha⟩ := List.getElem?_of_mem hn
    obtain ⟨nt, h1, rfl⟩ := pl_at (W := W) ha
    have hm' := List.mem_of_getElem? h1
    obtain ⟨e, hE, rfl⟩ := List.mem_map.mp he
    have o := d.ok.ed nt hm' e hE
    have hl3 := d.l nt hm' e hE
    have b1 := tlv_b I.tb a e.p
    have b2 := tlv_b I.tb a e.t
    have b3 := hC_b I.tb e.c
    have b4 := lsum_b I.kb e.l
    rw [hlen]
    refine ⟨o.p, o.t, o.c, ?_, ?_, fun i hi => ?_⟩
    · show -1000000000 ≤ tlv L a e.p - tlv L a e.t + lsum K e.l - hC (tlv L) e.c ∧ tlv L a e.p - tlv L a e.t + lsum K e.l - hC (tlv L) e.c ≤ 1000000000
      omega
    · show (List.replicate many.toNat e.l).flatten.length ≤ 8
      rw [List.length_flatten, List.map_replicate, List.sum_replicate_nat]
      rcases hm with rfl | rfl
      · show 1 * e.l.length ≤ 8
        omega
      · show 2 * e.l.length ≤ 8
        omega
    · obtain ⟨l, hl, hil⟩ := List.mem_flatten.mp (show i ∈ (List.replicate many.toNat e.l).flatten from hi)
      rw [List.eq_of_mem_replicate hl] at hil
      exact o.k i hil
theorem pl_beats (d : DrW W) (I : PlI W K L) : ∀ n ∈ (plW K L many W).ns, ∀ e ∈ n.2, -4000 ≤ e.b ∧ e.b ≤ 4000 := by
  intro n hn e he
  obtain ⟨a, ha⟩ := List.getElem?_of_mem hn
  obtain ⟨nt, h1, rfl⟩ := pl_at ha
  have hm' := List.mem_of_getElem? h1
  obtain ⟨e, hE, rfl⟩ := List.mem_map.mp he
  have hl3 := d.l nt hm' e hE
  have b1 := tlv_b I.tb a e.p
  have b2 := tlv_b I.tb a e.t
  have b3 := hC_b I.tb e.c
  have b4 := lsum_b I.kb e.l
  show -4000 ≤ tlv L a e.p - tlv L a e.t + lsum K e.l - hC (tlv L) e.c ∧ tlv L a e.p - tlv L a e.t + lsum K e.l - hC (tlv L) e.c ≤ 4000
  omega
theorem pl_pot (I : PlI W K L) (hm : 0 ≤ many) : Pot (plW K L many W) (cst many K) (fun a p => many * tlv L a p) := by
  refine ⟨fun a nt hn _ => ?_, fun _ => ?_, fun a nt e hn he _ _ => ?_⟩
  · obtain ⟨nt0, h1, rfl⟩ := pl_at hn
    show many * tlv L a (nt0.1 - 1) = 0
    rw [I.en a nt0 h1, Int.mul_zero]
  · show many * tlv L 0 0 = 0
    rw [I.st, Int.mul_zero]
  · obtain ⟨nt0, h1, rfl⟩ := pl_at hn
    obtain ⟨e, he, rfl⟩ := List.mem_map.mp he
    have hc : hC (fun a p => many * tlv L a p) e.c = many * hC (tlv L) e.c := by
      cases e.c with
      | none => show (0 : Int) = many * 0; omega
      | some c => rfl
    have hl : lsum K (List.replicate many.toNat e.l).flatten = many * lsum K e.l := by
      rw [lsum_rep, Int.toNat_of_nonneg hm]
    show many * tlv L a e.p = (many * (tlv L a e.p - tlv L a e.t + lsum K e.l - hC (tlv L) e.c) - lsum K (List.replicate many.toNat e.l).flatten) + many * tlv L a e.t + hC (fun a p => many * tlv L a p) e.c
    rw [hc, hl, Int.mul_sub, Int.mul_add, Int.mul_sub]
    omega
/-- the same heights, in greater units -/
theorem Pot.scale {pr : List Int} {h : Nat → Int → Int} {den t : Int} (P : Pot W (cst den pr) h) : Pot W (cst (den * t) (pr.map fun p => p * t)) (fun a p => t * h a p) := by
  have hl : ∀ l : List Int, (l.map fun k => (pr.map fun p => p * t).getD k.toNat 0).sum = t * (l.map fun k => pr.getD k.toNat 0).sum := by
    intro l
    induction l with
    | nil => show (0 : Int) = t * 0; omega
    | cons k l ih =>
      rw [List.map_cons, List.sum_cons, List.map_cons, List.sum_cons, ih, Int.mul_add]
      have : (pr.map fun p => p * t).getD k.toNat 0 = t * pr.getD k.toNat 0 := by
        rw [List.getD_eq_getElem?_getD, List.getD_eq_getElem?_getD, List.getElem?_map]
        cases pr[k.toNat]? with
        | none => show (0 : Int) = t * 0; omega
        | some x => show x * t = t * x; rw [Int.mul_comm]
      rw [this]
  refine ⟨fun a nt hn hu => ?_, fun hu => ?_, fun a nt e hn he hu ho => ?_⟩
  · show t * h a (nt.1 - 1) = 0
    rw [P.en a nt hn hu, Int.mul_zero]
  · show t * h 0 0 = 0
    rw [P.st hu, Int.mul_zero]
  · have hc : hC (fun a p => t * h a p) e.c = t * hC h e.c := by
      cases e.c with
      | none => show (0 : Int) = t * 0; omega
      | some c => rfl
    have he' := P.ed a nt e hn he hu ho
    unfold cst at he' ⊢
    rw [hc, hl]
    show t * h a e.p = _ + t * h a e.t + _
    rw [he', Int.mul_add, Int.mul_add, Int.mul_sub, ← Int.mul_assoc, Int.mul_comm t den]
end
end K67

set_option Elab.async false
set_option linter.all false
set_option pp.maxSteps 900
set_option maxRecDepth 100000
set_option maxHeartbeats 4000000
namespace K67
open PySem PySem.Spec PyProof.Rows L2
/-! ### a tuple once, or an empty one any number of times: the same object -/
theorem mul_same (l : Addr) (xs : Array Value) (n : Nat) (k : Int) (t : Tok) (hk : 0 ≤ k ∧ k ≤ 1000000) (od : Option Addr) (sl : Array (Option Value)) (h : (xs.isEmpty || k == 1) = true) :
    Meets (Builtin.«tuple.__mul__» ⟨[.ref l, .int k t], []⟩) (fun _ R s => s.heap.get? l = some { cls := .type "tuple", dict := od, data := .seq xs n, slots := sl } ∧ R (.ok (.ret (.ref l))) s) :=
  .of_wp fun prog w A R s q => by
    obtain ⟨g, gl, dd, tk, os⟩ := s
    obtain ⟨q1, q2⟩ := q
    have ix := AutoSeq1.idx_int
    have c0 : (decide (k < -(2 ^ 63)) || decide (k ≥ 2 ^ 63)) = false := by rw [decide_eq_false (by omega), decide_eq_false (by omega)] <;> rfl
    wp_walk using wpAny_loadPart' q1
    repeat (first
      | (refine wpAny_ite_false (decide_eq_false (by rw [c0]; exact Bool.false_ne_true)) ?_; wp_walk using wpAny_loadPart' q1)
      | (refine wpAny_ite_true (decide_eq_true (by rw [h])) ?_; wp_walk using wpAny_loadPart' q1))
    exact ⟨_, rfl, q2⟩
/-- tuple * int: once or of nothing (the same object), or as rRepT -/
def rRepA (K : PySem.W.Frag) : R2 := fun x y H Q => (∃ (l : Addr) (k : Int) (xs : List V), x = .ref l ∧ y = .int k ∧ SqT K H l xs ∧ (xs = [] ∨ k = 1) ∧ 0 ≤ k ∧ k ≤ 1000000 ∧ Q (.ref l) H) ∨ rRepT K x y H Q
theorem op_repA {X : Cx} : OpR X (binaryOp .Mult) (rRepA X.K) := by
  intro pins s σ H x y v u Q I rx ry h
  rcases h with ⟨l, k, xs, rfl, rfl, hT, h1, k0, k1, q⟩ | h
  · cases rx
    obtain ⟨t, rfl⟩ := ry
    obtain ⟨us, r, P, z⟩ := I.tuple hT
    obtain ⟨⟨cl, od, dat, sl⟩, ho, hc, n, hd⟩ := id P
    simp only at hc hd
    subst hc hd
    have len : us.length = xs.length := r.length.symm
    have once : (us.toArray.isEmpty || k == 1) = true := by
      rcases h1 with rfl | rfl
      · obtain rfl := List.length_eq_zero_iff.mp len
        rfl
      · simp
    refine wpAny_binaryOp_repeat_ref (T := "tuple") (U := "int") (by decide) ⟨_, ho, rfl⟩ (fun s' => typeIs_int s' k t) noFill_tuple_mul F.fills_int_mul F.slot_int_rmul repeat_tuple F.slot_int_index.lookup ?_
    refine call_meets F.slot_int_rmul (typeIs_int s k t) F.entry_int_rmul (F.args_int_rmul_2 _ _) (int_rmul_tuple k t l us.toArray n od sl) ⟨ho, rfl, ⟨_, ho, rfl⟩, ?_⟩
    refine call_meets F.slot_tuple_mul ⟨_, ho, rfl⟩ F.entry_tuple_mul (F.args_tuple_mul_2 _ _) (mul_same l us.toArray n k t ⟨k0, k1⟩ od sl once) ⟨ho, ?_⟩
    exact ⟨.ref l, H, I, rfl, q⟩
  · exact op_repT pins s σ H x y v u Q I rx ry h
/-- tuple * int, from 1 on, in one way -/
def rRepZ : R2 := fun x y H Q => ∃ (l : Addr) (k : Int) (xs : List V), x = .ref l ∧ y = .int k ∧ H l = some (.tup xs) ∧ 1 ≤ k ∧ k ≤ 1000 ∧ xs.length ≤ 1000 ∧ ∀ p H', Same H H' → H' p = some (.tup (List.replicate k.toNat xs).flatten) → Q (.ref p) H'
theorem op_repZ {X : Cx} : OpR X (binaryOp .Mult) rRepZ := by
  intro pins s σ H x y v u Q I rx ry h
  obtain ⟨l, k, xs, rfl, rfl, e, h1, h2, hl, q⟩ := h
  refine op_repA pins s σ H _ _ v u Q I rx ry ?_
  by_cases hz : xs = [] ∨ k = 1
  · refine .inl ⟨l, k, xs, rfl, rfl, SqT.of e, hz, by omega, by omega, q l H (Same.refl H) ?_⟩
    rw [e]
    rcases hz with rfl | rfl
    · rw [List.flatten_replicate_nil]
    · show _ = some (HO.tup [xs].flatten)
      rw [List.flatten_singleton]
  · refine .inr ⟨l, k, xs, rfl, rfl, SqT.of e, fun z => hz (.inl z), ?_, h2, hl, fun p hp => q p _ (same_new hp) upd_same⟩
    have : ¬ k = 1 := fun z => hz (.inr z)
    omega
end K67

set_option Elab.async false
set_option linter.all false
set_option pp.maxSteps 900
set_option maxRecDepth 100000
set_option maxHeartbeats 4000000
namespace K67
open PySem PySem.Spec PyProof.Rows L2
open TL (tl)
abbrev sPl : Stmt := top 50
/-! ### planted webs are drawn -/
structure TaL (H0 H : Hp) (tl : Addr) (as : List Addr) (L : List (List Int)) : Prop where
  hl : H tl = some (.lst (as.map V.ref))
  ln : as.length = L.length
  nd : as.Nodup
  at_ : ∀ (i : Nat) (xs : List Int), L[i]? = some xs → ∃ a, as[i]? = some a ∧ H a = some (.lst (xs.map V.int))
  ne : tl ∉ as
  f0 : H0 tl = none
  fa : ∀ a ∈ as, H0 a = none
theorem TaL.keep {H0 H H' : Hp} {tl : Addr} {as : List Addr} {L : List (List Int)} (h : TaL H0 H tl as L) (k : ∀ b o, (b = tl ∨ b ∈ as) → H b = some o → H' b = some o) : TaL H0 H' tl as L :=
  ⟨k _ _ (.inl rfl) h.hl, h.ln, h.nd, fun i xs e => by
    obtain ⟨a, h1, h2⟩ := h.at_ i xs e
    exact ⟨a, h1, k _ _ (.inr (List.mem_of_getElem? h1)) h2⟩, h.ne, h.f0, h.fa⟩
theorem TaL.same {H0 H H' : Hp} {tl : Addr} {as : List Addr} {L : List (List Int)} (h : TaL H0 H tl as L) (s : Same H H') : TaL H0 H' tl as L := h.keep fun b o _ e => s _ _ e
theorem TaL.kp {H0 H H' : Hp} {tl d g c : Addr} {n : Nat} {as : List Addr} {L : List (List Int)} (h : TaL H0 H tl as L) (S0 : StA H0 d g c n) (k : Kp d g H H') : TaL H0 H' tl as L := h.keep fun b o hb e => by
  have hn : H0 b = none := by
    rcases hb with rfl | hb
    · exact h.f0
    · exact h.fa b hb
  have := S0.free hn
  exact k _ _ e this.1 this.2.1
theorem TaL.free {H0 H : Hp} {tl D : Addr} {as : List Addr} {L : List (List Int)} (h : TaL H0 H tl as L) (hD : H D = none) : D ≠ tl ∧ D ∉ as := by
  refine ⟨(ne_of_none h.hl hD).symm, fun hm => ?_⟩
  obtain ⟨i, hi⟩ := List.getElem?_of_mem hm
  have hl : i < L.length := by rw [← h.ln]; exact (List.getElem?_eq_some_iff.mp hi).1
  obtain ⟨a, h1, h2⟩ := h.at_ i _ (List.getElem?_eq_getElem hl)
  obtain rfl := Option.some.inj (hi.symm.trans h1)
  rw [hD] at h2
  cases h2
theorem TaL.snoc {H0 H : Hp} {tl a : Addr} {as : List Addr} {L : List (List Int)} {xs : List Int} (h : TaL H0 H tl as L) (ha : a ∉ as) (ht : a ≠ tl) (e : H a = some (.lst (xs.map V.int))) (h0 : H0 a = none) : TaL H0 (upd H tl (.lst (as.map V.ref ++ [.ref a]))) tl (as ++ [a]) (L ++ [xs]) := by
  refine ⟨by rw [upd_same, List.map_append] <;> rfl, by rw [List.length_append, List.length_append, h.ln]; rfl, ?_, fun i ys hi => ?_, ?_, h.f0, fun b hb => ?_⟩
  · rw [List.nodup_append]
    exact ⟨h.nd, by simp, fun x hx y hy => by rw [List.mem_singleton.mp hy]; exact fun z => ha (z ▸ hx)⟩
  · by_cases hlt : i < L.length
    · rw [List.getElem?_append_left hlt] at hi
      obtain ⟨b, h1, h2⟩ := h.at_ i ys hi
      refine ⟨b, by rw [List.getElem?_append_left (by rw [h.ln]; exact hlt)]; exact h1, ?_⟩
      rw [upd_ne (fun z => h.ne (by rw [← z]; exact List.mem_of_getElem? h1))]
      exact h2
    · have hle := (List.getElem?_eq_some_iff.mp hi).1
      rw [List.length_append] at hle
      have hle : i < L.length + 1 := hle
      obtain rfl : i = L.length := by omega
      rw [List.getElem?_append_right (Nat.le_refl _), Nat.sub_self] at hi
      obtain rfl := Option.some.inj hi
      exact ⟨a, by rw [List.getElem?_append_right (by rw [h.ln]; omega), h.ln, Nat.sub_self]; rfl, by rw [upd_ne ht]; exact e⟩
  · intro hm
    rcases List.mem_append.mp hm with hm | hm
    · exact h.ne hm
    · exact ht (List.mem_singleton.mp hm).symm
  · rcases List.mem_append.mp hb with hb | hb
    · exact h.fa b hb
    · rw [List.mem_singleton.mp hb]
      exact h0
theorem TaL.put {H0 H : Hp} {tl a : Addr} {as : List Addr} {L : List (List Int)} {i : Nat} {l : List Int} (h : TaL H0 H tl as L) (ha : as[i]? = some a) : TaL H0 (upd H a (.lst (l.map V.int))) tl as (L.set i l) := by
  have hat : a ≠ tl := fun z => h.ne (by rw [← z]; exact List.mem_of_getElem? ha)
  refine ⟨by rw [upd_ne hat.symm]; exact h.hl, by rw [List.length_set]; exact h.ln, h.nd, fun j ys hj => ?_, h.ne, h.f0, h.fa⟩
  by_cases hij : i = j
  · subst hij
    have hl : i < L.length := by rw [← h.ln]; exact (List.getElem?_eq_some_iff.mp ha).1
    rw [List.getElem?_set_self hl] at hj
    obtain rfl := Option.some.inj hj
    exact ⟨a, ha, upd_same⟩
  · rw [List.getElem?_set_ne hij] at hj
    obtain ⟨b, h1, h2⟩ := h.at_ j ys hj
    exact ⟨b, h1, by rw [upd_ne (fun z => hij (nodup_at h.nd ha (by rw [← z]; exact h1)))]; exact h2⟩
structure LOk (W : Web) (L : List (List Int)) : Prop where
  at_ : ∀ (a : Nat) (nt : Int × List Ed) (l : List Int), W.ns[a]? = some nt → L[a]? = some l → l.length = nt.1.toNat ∧ l[nt.1.toNat - 1]? = some 0
  b : ∀ l ∈ L, ∀ x ∈ l, -100 ≤ x ∧ x ≤ 100
theorem atI_int {xs : List V} {p : Int} {v : V} (h0 : 0 ≤ p) (h : xs[p.toNat]? = some v) : atI xs p = some v := by
  have := atI_nat h
  rw [Int.toNat_of_nonneg h0] at this
  exact this
theorem tlv_at {L : List (List Int)} {a : Nat} {p x : Int} {l : List Int} (h : L[a]? = some l) (hx : l[p.toNat]? = some x) : tlv L a p = x := by
  unfold tlv
  rw [List.getD_eq_getElem?_getD, List.getD_eq_getElem?_getD, h]
  show (l[p.toNat]?).getD 0 = x
  rw [hx] <;> rfl
theorem LOk.pl {W : Web} {L : List (List Int)} {K : List Int} (o : OkW W) (h : LOk W L) (hl : L.length = W.ns.length) (kl : K.length = W.lb.toNat) (kb : ∀ k ∈ K, -1000 ≤ k ∧ k ≤ 1000) (h0 : ∀ l, L[0]? = some l → l[0]? = some 0) : PlI W K L := by
  have get : ∀ {a : Nat}, a < W.ns.length → ∃ l, L[a]? = some l := fun {a} ha => ⟨_, List.getElem?_eq_getElem (by rw [hl]; exact ha)⟩
  refine ⟨kl, kb, h.b, fun a nt hn => ?_, ?_⟩
  · obtain ⟨l, hl'⟩ := get (List.getElem?_eq_some_iff.mp hn).1
    have hp := o.pos nt (List.mem_of_getElem? hn)
    refine tlv_at hl' ?_
    rw [show (nt.1 - 1).toNat = nt.1.toNat - 1 by omega]
    exact (h.at_ a nt l hn hl').2
  · have hn1 := o.n1
    obtain ⟨l, hl'⟩ := get (a := 0) (by omega)
    exact tlv_at hl' (h0 l hl')
def spPl : Sp := fun vs H Q _ => ∃ (d g c : Addr) (n : Nat) (vw : V) (W : Web) (many : Int), vs = [.ref d, vw, .int many] ∧ StA H d g c n ∧ n ≤ 800000000 ∧ DV g H vw (wbD W) ∧ DrW W ∧ (many = 1 ∨ many = 2) ∧
  ∀ (t c' : Addr) (v : V) (K : List Int) (L : List (List Int)) (H' : Hp), H' t = some (.tup [v, .ref c']) → (∀ g', DV g' H' v (wbD (plW K L many W))) → H' c' = some (.tup (K.map V.int)) → PlI W K L → StA H' d g c (n + 100) → Kp d g H H' → Q (.ref t) H'
section
variable {P : Program} {w : World} {K : PySem.W.Frag} {mg : Str → Option Value} {base : Heap}
theorem scPl : FnScope ["state", "web", "many", "costs", "tall", "at", "net", "nets", "edges", "here", "to", "call", "beats", "names", "lap", "name"] ["state", "web", "many"] (defScope sPl) := ⟨rfl, rfl, rfl, by decide +kernel, rfl, by decide +kernel, by decide +kernel⟩
theorem ok_pl {f : Addr} {fd : FuncData} (F : Fun K "_law_wb_planted" "_law_wb_planted" sPl f fd) (T : Bn mg) (hsum : mg "sum" = none) (cD : Cl P w K mg base "_law_draw" ["state", "room"] 2 spDrw) (cP : Cl P w K mg base "_law_pick" ["state", "some"] 3 spPck) : FnOk P w K mg base CX0 4 f fd ["state", "web", "many"] spPl := by
  obtain ⟨fD, fdD, GD, mD, kD, bD⟩ := cD
  obtain ⟨fP, fdP, GP, mP, kP, bP⟩ := cP
  refine F.ok scPl (fun vs H Q E h => ?_) (fun cdv A outer s H vs Q E hr h => ?_)
  · obtain ⟨d, g, c, n, vw, W, many, rfl, _⟩ := h
    rfl
  · obtain ⟨d, g, c, n, vw, W, many, rfl, S, hn, hw, dw, hmany, k⟩ := h
    have okw := dw.ok
    have hlb := okw.lb
    have hlb5 := dw.lb
    have hn4 := dw.n
    have hn1 := okw.n1
    have hr2 : Room 2 _ := hr.mono (by decide)
    refine ⟨_, (pss_cons (ps_set (i := 3) scPl.nd rfl (Or.inr rfl) (pe_lc (own := [("lap", 14)]) (g := gName 14) (tt := tYes) (by rfl) scPl.nd (pi_range1 (by rfl) T.rng (pa_cons (pe_ix ix_tup (pv 1) pe_int (fun _ _ => rfl)) pa_nil)) (blkOk_by (own := [("lap", 14)]) (N := ["state", "web", "many", "costs", "tall", "at", "net", "nets", "edges", "here", "to", "call", "beats", "names", "lap", "name"]) (sc := defScope sPl) (by decide +kernel)) (fun _ _ _ _ _ => (pg_name (i := 14) scPl.nd rfl (Or.inl rfl))) (fun _ _ _ _ _ => pts_nil) (fun _ _ _ _ _ => (pe_call GP hr (by rfl) mP kP bP .nil pass0 (pa_cons (pv 0) (pa_cons (pe_lst (pa_cons pe_int (pa_cons pe_int (pa_cons pe_int (pa_cons pe_int (pa_cons pe_int (pa_cons (pe_un un_neg pe_int) (pa_cons (pe_call GD hr2 (by rfl) mD kD bD .nil pass0 (pa_cons (pv 0) (pa_cons pe_int pa_nil))) pa_nil)))))))) pa_nil))))))
      (pss_cons (ps_set (i := 4) scPl.nd rfl (Or.inl rfl) (pe_lst pa_nil))
      (pss_cons (ps_for PassesOwn.never rfl (pi_enumT (by rfl) T.enu (pa_cons (pe_ix ix_tup (pv 1) pe_int (fun _ _ => rfl)) pa_nil)) (pg_tup (by rfl) (pgs_cons (pg_name (i := 5) scPl.nd rfl (Or.inl rfl)) (pgs_cons (pg_name (i := 6) scPl.nd rfl (Or.inl rfl)) pgs_nil)))
          (pss_one (ps_expr (qApp (pv 4) (pe_op op_cat (pe_lc (own := [("lap", 14)]) (g := gName 14) (tt := tYes) (by rfl) scPl.nd (pi_range1 (by rfl) T.rng (pa_cons (pe_op op_sub (pe_ix ix_tup (pv 6) pe_int (fun _ _ => rfl)) pe_int) pa_nil)) (blkOk_by (own := [("lap", 14)]) (N := ["state", "web", "many", "costs", "tall", "at", "net", "nets", "edges", "here", "to", "call", "beats", "names", "lap", "name"]) (sc := defScope sPl) (by decide +kernel)) (fun _ _ _ _ _ => (pg_name (i := 14) scPl.nd rfl (Or.inl rfl))) (fun _ _ _ _ _ => pts_nil) (fun _ _ _ _ _ => (pe_call GP hr (by rfl) mP kP bP .nil pass0 (pa_cons (pv 0) (pa_cons (pe_lst (pa_cons pe_int (pa_cons pe_int (pa_cons pe_int (pa_cons (pe_un un_neg pe_int) (pa_cons (pe_call GD hr2 (by rfl) mD kD bD .nil pass0 (pa_cons (pv 0) (pa_cons pe_int pa_nil))) pa_nil)))))) pa_nil))))) (pe_lst (pa_cons pe_int pa_nil)))))))
      (pss_cons (ps_asg pe_int (pg_sub (pe_ix ix_list (pv 4) pe_int (fun _ _ => rfl)) pe_int set_list))
      (pss_cons (ps_set (i := 7) scPl.nd rfl (Or.inl rfl) (pe_lst pa_nil))
      (pss_cons (ps_for PassesOwn.never rfl (pi_enumT (by rfl) T.enu (pa_cons (pe_ix ix_tup (pv 1) pe_int (fun _ _ => rfl)) pa_nil)) (pg_tup (by rfl) (pgs_cons (pg_name (i := 5) scPl.nd rfl (Or.inl rfl)) (pgs_cons (pg_name (i := 6) scPl.nd rfl (Or.inl rfl)) pgs_nil)))
          (pss_cons (ps_set (i := 8) scPl.nd rfl (Or.inl rfl) (pe_lst pa_nil))
          (pss_cons (ps_for PassesOwn.never rfl (pi_tup (pe_ix ix_tup (pv 6) pe_int (fun _ _ => rfl))) (pg_tup (by rfl) (pgs_cons (pg_name (i := 9) scPl.nd rfl (Or.inl rfl)) (pgs_cons (pg_name (i := 10) scPl.nd rfl (Or.inl rfl)) (pgs_cons (pg_name (i := 11) scPl.nd rfl (Or.inl rfl)) (pgs_cons (pg_name (i := 12) scPl.nd rfl (Or.inl rfl)) (pgs_cons (pg_name (i := 13) scPl.nd rfl (Or.inl rfl)) pgs_nil))))))
              (pss_cons (ps_set (i := 12) scPl.nd rfl (Or.inl rfl) (pe_op op_add (pe_op op_sub (pe_ix ix_list (pe_ix ix_list (pv 4) (pv 5) (fun _ _ => rfl)) (pv 9) (fun _ _ => rfl)) (pe_ix ix_list (pe_ix ix_list (pv 4) (pv 5) (fun _ _ => rfl)) (pv 10) (fun _ _ => rfl))) (pe_callB (cr_sum rfl) (by rfl) hsum (by decide +kernel) (pa_cons (pe_lc (own := [("name", 15)]) (g := gName 15) (tt := tYes) (by rfl) scPl.nd (pi_tup (pv 13)) (blkOk_by (own := [("name", 15)]) (N := ["state", "web", "many", "costs", "tall", "at", "net", "nets", "edges", "here", "to", "call", "beats", "names", "lap", "name"]) (sc := defScope sPl) (by decide +kernel)) (fun _ _ _ _ _ => (pg_name (i := 15) scPl.nd rfl (Or.inl rfl))) (fun _ _ _ _ _ => pts_nil) (fun _ _ _ _ _ => (pe_ix (show IxR _ (rIxL K) from ix_list) (pv 3) (pv 15) (fun _ _ => rfl)))) pa_nil))))
              (pss_mid (ps_if (pt_cmpR op_notN (pv 11) pe_non (nomark _)) (pss_one (ps_set (i := 12) scPl.nd rfl (Or.inl rfl) (pe_op op_sub (pv 12) (pe_ix ix_list (pe_ix ix_list (pv 4) (pv 11) (fun _ _ => rfl)) pe_int (fun _ _ => rfl))))) pss_nil)
              (pss_one (ps_expr (qApp (pv 8) (pe_tup (pa_cons (pv 9) (pa_cons (pv 10) (pa_cons (pv 11) (pa_cons (pv 12) (pa_cons (pe_op op_repZ (pv 13) (pv 2)) pa_nil))))))))))))
          (pss_one (ps_expr (qApp (pv 7) (pe_tup (pa_cons (pe_ix ix_tup (pv 6) pe_int (fun _ _ => rfl)) (pa_cons (pe_callTy call_tuple_of (by rfl) T.tpl (by decide +kernel) (pa_cons (pv 8) pa_nil)) pa_nil)))))))))
      (pss_one (ps_ret (pe_tup (pa_cons (pe_tup (pa_cons (pe_ix ix_tup (pv 1) pe_int (fun _ _ => rfl)) (pa_cons (pe_callTy call_tuple_of (by rfl) T.tpl (by decide +kernel) (pa_cons (pv 7) pa_nil)) pa_nil))) (pa_cons (pe_callTy call_tuple_of (by rfl) T.tpl (by decide +kernel) (pa_cons (pv 3) pa_nil)) pa_nil))))))))))), ?_⟩
    obtain ⟨b0, c0, xn, rfl, eb0, ec0, rn⟩ := wb_at hw
    have hnl : xn.length = W.ns.length := by rw [rn.len, List.length_map]
    have nd0 : b0 ≠ d ∧ b0 ≠ g ∧ c0 ≠ d ∧ c0 ≠ g := by
      have h1 := fun (b : Addr) (l : List V) (e : H b = some (.tup l)) => (Kv.kp (g := g) S (Kp.refl (d := d) (g := g) H))
      obtain ⟨r, tt, gs, cs, S'⟩ := S
      refine ⟨fun z => ?_, fun z => ?_, fun z => ?_, fun z => ?_⟩
      · rw [z, S'.dk] at eb0; cases eb0
      · rw [z, S'.gl] at eb0; cases eb0
      · rw [z, S'.dk] at ec0; cases ec0
      · rw [z, S'.gl] at ec0; cases ec0
    -- costs
    refine ⟨_, rfl, b0, _, 0, _, rfl, rfl, SqT.of eb0, atI_nat (j := 0) rfl, W.lb, rfl, by omega, by omega, fun cl hcl => ?_⟩
    have fc := S.free hcl
    refine lc_it (walk_range (lo := 0) (n := W.lb.toNat)) (fun i H' => ∃ ks : List Int, H' cl = some (.lst (ks.map V.int)) ∧ ks.length = i ∧ (∀ x ∈ ks, -1000 ≤ x ∧ x ≤ 1000) ∧ StA H' d g c (n + 2 * i) ∧ Kp d g H H')
      ⟨[], upd_same, rfl, (fun x hx => by cases hx), S.keep (same_new hcl), Kp.of (same_new hcl)⟩ (fun _ _ _ _ => trivial) ?_ ?_
    · rintro i x H2z H2 hi ⟨ks, e2, hkl, hks, S2, kp2⟩ ⟨rfl, rfl⟩
      refine ⟨rfl, ?_⟩
      refine ⟨_, rfl, 4, rfl, _, rfl, d, g, c, _, 1000, rfl, S2, by omega, by decide, by decide, fun u H3 u0 u1 S3 kp3 => ?_⟩
      refine ⟨(by show 7 ≤ sizeLine; decide), fun q hq => ?_⟩
      generalize hH4 : upd H3 q _ = H4
      obtain ⟨sq, eq⟩ := freshF hq hH4
      have S4 := S3.keep sq
      refine ⟨d, g, c, q, _, _, rfl, S4, by omega, eq, (S3.free hq).2.1, by simp, (by show 7 ≤ 1000000; decide), fun v H5 hv S5 kp5 => ?_⟩
      obtain ⟨b, rfl, hb⟩ : ∃ b : Int, v = .int b ∧ -1000 ≤ b ∧ b ≤ 1000 := by
        simp only [List.mem_cons, List.not_mem_nil, or_false] at hv
        rcases hv with rfl | rfl | rfl | rfl | rfl | rfl | rfl
        · exact ⟨1, rfl, by decide⟩
        · exact ⟨2, rfl, by decide⟩
        · exact ⟨0, rfl, by decide⟩
        · exact ⟨3, rfl, by decide⟩
        · exact ⟨7, rfl, by decide⟩
        · exact ⟨-4, rfl, by decide⟩
        · exact ⟨u, rfl, by omega⟩
      have k25 : Kp d g H2 H5 := kp3.trans ((Kp.of sq).trans kp5)
      have e5 := k25 _ _ e2 fc.1 fc.2.1
      refine ⟨_, e5, by rw [List.length_map, hkl, sizeLine_eq]; omega, ks ++ [b], by rw [upd_same, List.map_append]; rfl, by rw [List.length_append, hkl]; rfl, ?_, ?_, (kp2.trans k25).upF hcl⟩
      · intro x hx
        rcases List.mem_append.mp hx with hx | hx
        · exact hks x hx
        · rw [List.mem_singleton.mp hx]
          exact hb
      · exact (S5.upF fc.1 fc.2.1 fc.2.2).mono (by omega)
    rintro H1 ⟨Ks, ecl, hKl, hKb, S1, kp1⟩
    -- tall
    have hcl0 : H cl = none := hcl
    refine ⟨Nat.zero_le _, fun tl htl => ?_⟩
    generalize hH2 : upd H1 tl _ = H2
    obtain ⟨stl, etl⟩ := freshF htl hH2
    have htl0 : H tl = none := kp1.free S1 htl
    have S2 := S1.keep stl
    have kp2 : Kp d g H H2 := kp1.trans (Kp.of stl)
    have ecl2 := stl _ _ ecl
    have hct : cl ≠ tl := ne_of_none ecl htl
    refine ⟨_, rfl, b0, _, 1, _, rfl, rfl, SqT.of (kp2 _ _ eb0 nd0.1 nd0.2.1), atI_nat (j := 1) rfl, c0, xn, rfl, SqT.of (kp2 _ _ ec0 nd0.2.2.1 nd0.2.2.2), ?_⟩
    refine for_it (walk_enumT (K := K) (a := c0) (xs := xn)) (fun i σ H' => ∃ (as : List Addr) (L : List (List Int)) (v5 v6 : Option V), σ = [some (.ref d), some (.ref b0), some (.int many), some (.ref cl), some (.ref tl), v5, v6, none, none, none, none, none, none, none, none, none] ∧ TaL H H' tl as L ∧ L.length = i ∧ LOk W L ∧ H' cl = some (.lst (Ks.map V.int)) ∧ cl ∉ as ∧ StA H' d g c (n + 10 + 10 * i) ∧ Kp d g H H')
      ⟨[], [], _, _, rfl, ⟨etl, rfl, List.nodup_nil, (fun i xs h => by cases h), (by simp), htl0, (fun a h => by cases h)⟩, rfl, ⟨(fun a nt l _ h => by cases h), (fun l h => by cases h)⟩, ecl2, (by simp), S2.mono (by omega), kp2⟩ (fun i σ H' _ ⟨_, _, _, _, _, _, _, _, _, _, _, k'⟩ => SqT.of (k' _ _ ec0 nd0.2.2.1 nd0.2.2.2)) ?_ ?_
    · rintro i x σ H3z H3 hi ⟨as, L, v5, v6, rfl, TA, hLl, hLo, ecl3, hca, S3, kp3⟩ ⟨T0, x', y, rfl, hT, hH3, hx, hy⟩
      obtain rfl := Option.some.inj hx
      obtain ⟨sT, eT⟩ := freshF hT hH3.symm
      obtain ⟨dn, hdn, hyd⟩ := rn.at_ hy
      rw [List.getElem?_map] at hdn
      obtain ⟨nt, hnt, rfl⟩ := Option.map_eq_some_iff.mp hdn
      have hyd := DV.keepP (g' := g) ((Kv.kp S (kp3.trans (Kp.of sT))).tup) (nt_pur nt) hyd
      obtain ⟨b3, c3, xe, rfl, eb3, ec3, re⟩ := nt_at hyd
      have S4 := S3.keep sT
      have TA4 := TA.same sT
      have ecl4 := sT _ _ ecl3
      have k4 : Kp d g H H3 := kp3.trans (Kp.of sT)
      have npos := okw.pos nt (List.mem_of_getElem? hnt)
      have npl := dw.p nt (List.mem_of_getElem? hnt)
      have hi' : i < xn.length := hi
      refine ⟨T0, _, rfl, SqT.of eT, (by rfl), _, _, rfl, _, _, rfl, rfl, ?_⟩
      refine ⟨_, rfl, .inl ⟨rfl, _, SqL.of TA4.hl⟩, _, rfl, b3, _, 0, _, rfl, rfl, SqT.of eb3, atI_nat (j := 0) rfl, _, _, rfl, rfl, _, rfl, by omega, by omega, fun D hD => ?_⟩
      have fD' := S4.free hD
      have hD0 := TA4.free hD
      refine lc_it (walk_range (lo := 0) (n := (nt.1 - 1).toNat)) (fun j H' => ∃ ks : List Int, H' D = some (.lst (ks.map V.int)) ∧ ks.length = j ∧ (∀ x ∈ ks, -100 ≤ x ∧ x ≤ 100) ∧ StA H' d g c (n + 10 + 10 * i + 2 * j) ∧ Kp d g H3 H')
        ⟨[], upd_same, rfl, (fun x hx => by cases hx), S4.keep (same_new hD), Kp.of (same_new hD)⟩ (fun _ _ _ _ => trivial) ?_ ?_
      · rintro j x H5z H5 hj ⟨ks, e5, hkl, hks, S5, kp5⟩ ⟨rfl, rfl⟩
        refine ⟨rfl, ?_⟩
        refine ⟨_, rfl, 2, rfl, _, rfl, d, g, c, _, 100, rfl, S5, by omega, by decide, by decide, fun u H6 u0 u1 S6 kp6 => ?_⟩
        refine ⟨(by show 5 ≤ sizeLine; decide), fun q hq => ?_⟩
        generalize hH7 : upd H6 q _ = H7
        obtain ⟨sq, eq⟩ := freshF hq hH7
        have S7 := S6.keep sq
        refine ⟨d, g, c, q, _, _, rfl, S7, by omega, eq, (S6.free hq).2.1, by simp, (by show 5 ≤ 1000000; decide), fun v H8 hv S8 kp8 => ?_⟩
        obtain ⟨b, rfl, hb⟩ : ∃ b : Int, v = .int b ∧ -100 ≤ b ∧ b ≤ 100 := by
          simp only [List.mem_cons, List.not_mem_nil, or_false] at hv
          rcases hv with rfl | rfl | rfl | rfl | rfl
          · exact ⟨0, rfl, by decide⟩
          · exact ⟨3, rfl, by decide⟩
          · exact ⟨10, rfl, by decide⟩
          · exact ⟨-2, rfl, by decide⟩
          · exact ⟨u, rfl, by omega⟩
        have k58 : Kp d g H5 H8 := kp6.trans ((Kp.of sq).trans kp8)
        have e8 := k58 _ _ e5 fD'.1 fD'.2.1
        refine ⟨_, e8, by rw [List.length_map, hkl, sizeLine_eq]; omega, ks ++ [b], by rw [upd_same, List.map_append]; rfl, by rw [List.length_append, hkl]; rfl, ?_, ?_, (kp5.trans k58).upF hD⟩
        · intro x hx
          rcases List.mem_append.mp hx with hx | hx
          · exact hks x hx
          · rw [List.mem_singleton.mp hx]
            exact hb
        · exact (S8.upF fD'.1 fD'.2.1 fD'.2.2).mono (by omega)
      rintro H5 ⟨ks, e5, hkl, hks, S5, kp5⟩
      refine ⟨(by show 1 ≤ sizeLine; decide), fun z hz => ?_⟩
      generalize hH6 : upd H5 z _ = H6
      obtain ⟨sz, ez⟩ := freshF hz hH6
      have e6 := sz _ _ e5
      have hkl' : ks.length = (nt.1 - 1).toNat := hkl
      refine ⟨D, z, _, [.int 0], rfl, rfl, e6, ez, by rw [List.length_map, sizeLine_eq]; show ks.length + 1 ≤ _; omega, fun r hr => ?_⟩
      generalize hH7 : upd H6 r _ = H7
      obtain ⟨sr, er⟩ := freshF hr hH7
      have er : H7 r = some (.lst ((ks ++ [0]).map V.int)) := by rw [er, List.map_append] <;> rfl
      have TA5 := TA4.kp S kp5
      have TA7 := (TA5.same sz).same sr
      have fr := (TA5.same sz).free hr
      have hr0 : H r = none := (k4.trans kp5).free S5 (no_of sz hr)
      have S7 := (S5.keep sz).keep sr
      have ecl7 := sr _ _ (sz _ _ (kp5 _ _ ecl4 fc.1 fc.2.1))
      have ft := S.free htl0
      have k7 : Kp d g H H7 := (k4.trans kp5).trans ((Kp.of sz).trans (Kp.of sr))
      refine ⟨tl, _, _, rfl, rfl, TA7.hl, by rw [List.length_map, TA7.ln, hLl, sizeLine_eq]; omega, as ++ [r], L ++ [ks ++ [0]], _, _, rfl, TA7.snoc fr.2 fr.1 er hr0, by rw [List.length_append, hLl]; rfl, ?_, ?_, ?_, ?_, k7.upF htl0⟩
      · refine ⟨fun a nt' l hn' hl' => ?_, fun l hl' => ?_⟩
        · by_cases ha : a < L.length
          · rw [List.getElem?_append_left ha] at hl'
            exact hLo.at_ a nt' l hn' hl'
          · have hle := (List.getElem?_eq_some_iff.mp hl').1
            rw [List.length_append] at hle
            have hle : a < L.length + 1 := hle
            obtain rfl : a = L.length := by omega
            rw [List.getElem?_append_right (Nat.le_refl _), Nat.sub_self] at hl'
            obtain rfl := Option.some.inj hl'
            rw [hLl] at hn'
            obtain rfl := Option.some.inj (hnt.symm.trans hn')
            refine ⟨by rw [List.length_append]; show ks.length + 1 = _; omega, ?_⟩
            rw [show nt.1.toNat - 1 = ks.length by omega, List.getElem?_append_right (Nat.le_refl _), Nat.sub_self]
            rfl
        · rcases List.mem_append.mp hl' with hl' | hl'
          · exact hLo.b l hl'
          · rw [List.mem_singleton.mp hl']
            intro x hx
            rcases List.mem_append.mp hx with hx | hx
            · exact hks x hx
            · rw [List.mem_singleton.mp hx]
              decide
      · rw [upd_ne hct]
        exact ecl7
      · intro hm
        rcases List.mem_append.mp hm with hm | hm
        · exact hca hm
        · rw [← List.mem_singleton.mp hm, sr _ _ (sz _ _ (kp5 _ _ ecl4 fc.1 fc.2.1)) ] at er
          have := sz _ _ (kp5 _ _ ecl4 fc.1 fc.2.1)
          rw [List.mem_singleton.mp hm, hr] at this
          cases this
      · refine (S7.upF ft.1 ft.2.1 ft.2.2).mono ?_
        omega
    rintro σ H3 ⟨as, L, v5, v6, rfl, TA, hLl, hLo, ecl3, hca, S3, kp3⟩
    rw [hnl] at hLl
    -- tall[0][0] = 0
    obtain ⟨l0, hl0⟩ : ∃ l, L[0]? = some l := ⟨_, List.getElem?_eq_getElem (by omega)⟩
    obtain ⟨nt0, hnt0⟩ : ∃ nt, W.ns[0]? = some nt := ⟨_, List.getElem?_eq_getElem (by omega)⟩
    obtain ⟨a0, ha0, ea0⟩ := TA.at_ 0 l0 hl0
    obtain ⟨hl0l, hl0z⟩ := hLo.at_ 0 nt0 l0 hnt0 hl0
    have npos0 := okw.pos nt0 (List.mem_of_getElem? hnt0)
    refine ⟨_, rfl, tl, _, (0 : Nat), .ref a0, rfl, rfl, SqL.of TA.hl, atI_nat (by rw [List.getElem?_map, ha0] <;> rfl), a0, _, (0 : Nat), 0, rfl, rfl, ea0, ixN_at (by rw [List.length_map, hl0l]; omega), ?_⟩
    have hset : (l0.map V.int).set 0 (.int 0) = (l0.set 0 0).map V.int := by rw [List.map_set]
    rw [hset]
    have TA4 := TA.put (l := l0.set 0 0) ha0
    have ha00 := TA.fa a0 (List.mem_of_getElem? ha0)
    have fa0 := S.free ha00
    have S4 := S3.upF (o := .lst ((l0.set 0 0).map V.int)) fa0.1 fa0.2.1 fa0.2.2
    have kp4 := kp3.upF (o := .lst ((l0.set 0 0).map V.int)) ha00
    have ecl4 : (upd H3 a0 (.lst ((l0.set 0 0).map V.int))) cl = some (.lst (Ks.map V.int)) := by
      rw [upd_ne (fun z => hca (by rw [z]; exact List.mem_of_getElem? ha0))]
      exact ecl3
    change (fun H4 => _) (upd H3 a0 (.lst ((l0.set 0 0).map V.int)))
    generalize upd H3 a0 (.lst ((l0.set 0 0).map V.int)) = H4 at TA4 S4 kp4 ecl4 ⊢
    have hKl : Ks.length = W.lb.toNat := hKl
    have hLl' : (L.set 0 (l0.set 0 0)).length = W.ns.length := by rw [List.length_set]; exact hLl
    have hLo' : LOk W (L.set 0 (l0.set 0 0)) := by
      refine ⟨fun a nt l hn hl' => ?_, fun l hl' x hx => ?_⟩
      · by_cases ha : 0 = a
        · subst ha
          rw [List.getElem?_set_self (by omega)] at hl'
          obtain rfl := Option.some.inj hl'
          obtain rfl := Option.some.inj (hnt0.symm.trans hn)
          refine ⟨by rw [List.length_set]; exact hl0l, ?_⟩
          by_cases hz : 0 = nt0.1.toNat - 1
          · rw [← hz]
            exact List.getElem?_set_self (by omega)
          · rw [List.getElem?_set_ne hz]
            exact hl0z
        · rw [List.getElem?_set_ne ha] at hl'
          exact hLo.at_ a nt l hn hl'
      · rcases List.mem_or_eq_of_mem_set hl' with h | h
        · exact hLo.b l h x hx
        · subst h
          rcases List.mem_or_eq_of_mem_set hx with h | h
          · exact hLo.b l0 (List.mem_of_getElem? hl0) x h
          · rw [h]
            decide
    have PL : PlI W Ks (L.set 0 (l0.set 0 0)) := hLo'.pl okw hLl' hKl hKb fun l hl' => by
      rw [List.getElem?_set_self (by omega)] at hl'
      obtain rfl := Option.some.inj hl'
      exact List.getElem?_set_self (by omega)
    clear hLo hl0z hl0l ea0 TA ecl3 S3 kp3 hset
    generalize L.set 0 (l0.set 0 0) = M at TA4 hLl' hLo' PL
    clear hl0 hLl L
    have hm12 : 1 ≤ many ∧ many ≤ 2 := by omega
    refine ⟨Nat.zero_le _, fun zl hzl => ?_⟩
    generalize hH5 : upd H4 zl _ = H5
    obtain ⟨szl, ezl⟩ := freshF hzl hH5
    have TA5 := TA4.same szl
    have ecl5 := szl _ _ ecl4
    have S5 := S4.keep szl
    have k05 : Kp d g H H5 := kp4.trans (Kp.of szl)
    have kt05 : Kt H H5 := (Kv.kp (g := g) S k05).tup
    have eb5 := kt05 _ _ eb0
    have ec5 := kt05 _ _ ec0
    generalize hPN : W.ns.mapIdx (plN Ks M many) = PN
    have pnl : PN.length = W.ns.length := by rw [← hPN]; exact List.length_mapIdx
    have pn_at : ∀ {i : Nat} {nt : Int × List Ed}, W.ns[i]? = some nt → PN[i]? = some (plN Ks M many i nt) := fun {i nt} h => by rw [← hPN, List.getElem?_mapIdx, h] <;> rfl
    have ml : ∀ {a : Nat} {nt : Int × List Ed}, W.ns[a]? = some nt → ∃ (aa : Addr) (l : List Int), as[a]? = some aa ∧ M[a]? = some l ∧ l.length = nt.1.toNat ∧ H5 aa = some (.lst (l.map V.int)) := fun {a nt} h => by
      have hlt := (List.getElem?_eq_some_iff.mp h).1
      obtain ⟨l, hl⟩ : ∃ l, M[a]? = some l := ⟨_, List.getElem?_eq_getElem (by rw [hLl']; exact hlt)⟩
      obtain ⟨aa, h1, h2⟩ := TA5.at_ a l hl
      exact ⟨aa, l, h1, hl, (hLo'.at_ a nt l h hl).1, h2⟩
    refine ⟨_, rfl, b0, _, 1, _, rfl, rfl, SqT.of eb5, atI_nat (j := 1) rfl, c0, xn, rfl, SqT.of ec5, ?_⟩
    refine for_it (walk_enumT (K := K) (a := c0) (xs := xn)) (fun i σ H' => ∃ (ns : List V) (v5 v6 v8 v9 v10 v11 v12 v13 v14 v15 : Option V), σ = [some (.ref d), some (.ref b0), some (.int many), some (.ref cl), some (.ref tl), v5, v6, some (.ref zl), v8, v9, v10, v11, v12, v13, v14, v15] ∧ Same H4 H' ∧ (∀ b o, b ≠ zl → H5 b = some o → H' b = some o) ∧ H' zl = some (.lst ns) ∧ ns.length = i ∧ ∀ g', DVs g' H' ns ((PN.take i).map ntD))
      ⟨[], _, _, _, _, _, _, _, _, _, _, rfl, szl, (fun b o _ e => e), ezl, rfl, fun g' => .nil⟩ (fun i σ H' _ ⟨_, _, _, _, _, _, _, _, _, _, _, _, _, k', _⟩ => SqT.of (k' _ _ (by rintro rfl; rw [ezl] at ec5; cases ec5) ec5)) ?_ ?_
    · rintro i x σ H6z H6 hi ⟨ns, v5, v6, v8, v9, v10, v11, v12, v13, v14, v15, rfl, s6z, k6z, e6z, hnsl, hns⟩ ⟨T0, x', y, rfl, hT, hH6, hx, hy⟩
      obtain rfl := Option.some.inj hx
      obtain ⟨sT, eT⟩ := freshF hT hH6.symm
      obtain ⟨dn, hdn, hyd⟩ := rn.at_ hy
      rw [List.getElem?_map] at hdn
      obtain ⟨nt, hnt, rfl⟩ := Option.map_eq_some_iff.mp hdn
      have k6 : ∀ b o, b ≠ zl → H5 b = some o → H6 b = some o := fun b o hb e => sT _ _ (k6z b o hb e)
      have kt56 : Kt H5 H6 := fun b l e => k6 _ _ (by rintro rfl; rw [ezl] at e; cases e) e
      have hyd := DV.keepP (g' := g) (fun b l e => kt56 _ _ (kt05 _ _ e)) (nt_pur nt) hyd
      obtain ⟨b3, c3, xe, rfl, eb3, ec3, re⟩ := nt_at hyd
      have hxe : xe.length = nt.2.length := by rw [re.len, List.length_map]
      have npl := dw.p nt (List.mem_of_getElem? hnt)
      have npos := okw.pos nt (List.mem_of_getElem? hnt)
      have ne7 := dw.e nt (List.mem_of_getElem? hnt)
      have hil := (List.getElem?_eq_some_iff.mp hnt).1
      have etl6 := k6 _ _ (fun z => by rw [← z] at hzl; rw [TA4.hl] at hzl; cases hzl) TA5.hl
      have ecl6 := k6 _ _ (fun z => by rw [← z] at hzl; rw [ecl4] at hzl; cases hzl) ecl5
      have ml6 : ∀ {a : Nat} {nt : Int × List Ed}, W.ns[a]? = some nt → ∃ (aa : Addr) (l : List Int), as[a]? = some aa ∧ M[a]? = some l ∧ l.length = nt.1.toNat ∧ H6 aa = some (.lst (l.map V.int)) := fun {a nt} h => by
        obtain ⟨aa, l, h1, h2, h3, h4⟩ := ml h
        refine ⟨aa, l, h1, h2, h3, k6 _ _ (fun z => ?_) h4⟩
        have := (TA4.free hzl).2
        rw [← z] at this
        exact this (List.mem_of_getElem? h1)
      have e6 := sT _ _ e6z
      refine ⟨T0, _, rfl, SqT.of eT, (by rfl), _, _, rfl, _, _, rfl, rfl, ?_⟩
      refine ⟨Nat.zero_le _, fun wl hwl => ?_⟩
      generalize hH7 : upd H6 wl _ = H7
      obtain ⟨swl, ewl⟩ := freshF hwl hH7
      refine ⟨_, rfl, b3, _, 1, _, rfl, rfl, SqT.of (swl _ _ eb3), atI_nat (j := 1) rfl, c3, rfl, ⟨_, SqT.of (swl _ _ ec3)⟩, ?_⟩
      refine for_it (walk_tup (K := K) (a := c3) (xs := xe)) (fun j σ H' => ∃ (ws : List V) (v9 v10 v11 v12 v13 : Option V), σ = [some (.ref d), some (.ref b0), some (.int many), some (.ref cl), some (.ref tl), some (.int (i : Nat)), some (.ref b3), some (.ref zl), some (.ref wl), v9, v10, v11, v12, v13, v14, v15] ∧ Same H6 H' ∧ H' wl = some (.lst ws) ∧ ws.length = j ∧ ∀ g', DVs g' H' ws ((((nt.2.take j).map (plE Ks M many i))).map edD))
        ⟨[], _, _, _, _, _, rfl, swl, ewl, rfl, fun g' => .nil⟩ (fun j σ H' _ ⟨_, _, _, _, _, _, _, s, _⟩ => SqT.of (s _ _ ec3)) ?_ ?_
      · rintro j x σ H8z H8 hj ⟨ws, v9, v10, v11, v12, v13, rfl, s8, e8, hwl8, hws⟩ ⟨rfl, hx⟩
        obtain ⟨de, hde, hxd⟩ := re.at_ hx
        rw [List.getElem?_map] at hde
        obtain ⟨e, he, rfl⟩ := Option.map_eq_some_iff.mp hde
        obtain ⟨be, ae, rfl, ebe, xl, eae, rl⟩ := ed_at hxd
        obtain rfl := ints_inv rl
        have hoe := okw.ed nt (List.mem_of_getElem? hnt) e (List.mem_of_getElem? he)
        have hl3 := dw.l nt (List.mem_of_getElem? hnt) e (List.mem_of_getElem? he)
        obtain ⟨ai, li, hai, hli, hlil, eai⟩ := ml6 hnt
        have hpi : e.p.toNat < li.length := by have := hoe.p; omega
        have hti : e.t.toNat < li.length := by have := hoe.t; omega
        have vat : ∀ {p : Int}, 0 ≤ p → p.toNat < li.length → atI (li.map V.int) p = some (.int (tlv M i p)) := fun {p} h0 hp => by
          have hx : li[p.toNat]? = some (li[p.toNat]'hp) := List.getElem?_eq_getElem hp
          rw [tlv_at hli hx]
          exact atI_int h0 (by rw [List.getElem?_map, hx] <;> rfl)
        refine ⟨be, _, rfl, SqT.of (s8 _ _ ebe), (by rfl), _, _, rfl, _, _, rfl, _, _, rfl, _, _, rfl, _, _, rfl, rfl, ?_⟩
        refine ⟨_, rfl, _, rfl, tl, _, (i : Nat), .ref ai, rfl, rfl, SqL.of (s8 _ _ etl6), atI_nat (by rw [List.getElem?_map, hai] <;> rfl), _, rfl, ai, _, e.p, .int (tlv M i e.p), rfl, rfl, SqL.of (s8 _ _ eai), vat hoe.p.1 hpi, ?_⟩
        refine ⟨_, rfl, _, rfl, tl, _, (i : Nat), .ref ai, rfl, rfl, SqL.of (s8 _ _ etl6), atI_nat (by rw [List.getElem?_map, hai] <;> rfl), _, rfl, ai, _, e.t, .int (tlv M i e.t), rfl, rfl, SqL.of (s8 _ _ eai), vat hoe.t.1 hti, _, _, rfl, rfl, ?_⟩
        refine ⟨_, rfl, ae, rfl, ⟨_, SqT.of (s8 _ _ eae)⟩, fun D hD => ?_⟩
        refine lc_it (walk_tup (K := K) (a := ae) (xs := e.l.map V.int)) (fun m H' => H' D = some (.lst (((e.l.take m).map fun k => Ks.getD k.toNat 0).map V.int)) ∧ Same H8 H') ⟨upd_same, same_new hD⟩ (fun _ _ _ h => SqT.of (h.2 _ _ (s8 _ _ eae))) ?_ ?_
        · rintro m x H9z H9 hm ⟨e9, s9⟩ ⟨rfl, hx2⟩
          have hx2 : (e.l.map V.int)[m]? = some x := hx2
          rw [List.getElem?_map] at hx2
          obtain ⟨lk, hk, rfl⟩ := Option.map_eq_some_iff.mp hx2
          have hk0 := hoe.k lk (List.mem_of_getElem? hk)
          have hkl : lk.toNat < Ks.length := by rw [hKl]; omega
          refine ⟨(by rfl), ?_⟩
          refine ⟨_, rfl, _, rfl, cl, Ks.map V.int, lk, .int (Ks.getD lk.toNat 0), rfl, rfl, SqL.of (s9 _ _ (s8 _ _ ecl6)), atI_int hk0.1 (by rw [List.getElem?_map, List.getElem?_eq_getElem hkl, List.getD_eq_getElem?_getD, List.getElem?_eq_getElem hkl] <;> rfl), _, e9, ?_, ?_, fun b o eb => ?_⟩
          · rw [List.length_map, List.length_map, List.length_take, sizeLine_eq]
            omega
          · rw [upd_same, List.take_succ, hk, List.map_append, List.map_append]
            rfl
          · rw [upd_ne (ne_of_none eb hD)]
            exact s9 _ _ eb
        rintro H9 ⟨e9, s9⟩
        rw [List.length_map, List.take_length] at e9
        refine ⟨D, _, rfl, SqL.of e9, _, _, rfl, rfl, ?_⟩
        have s69 := s8.trans s9
        refine ⟨fun σ H' => σ = [some (.ref d), some (.ref b0), some (.int many), some (.ref cl), some (.ref tl), some (.int (i : Nat)), some (.ref b3), some (.ref zl), some (.ref wl), some (.int e.p), some (.int e.t), some (oIV e.c), some (.int (plE Ks M many i e).b), some (.ref ae), v14, v15] ∧ Same H9 H', ?_, ?_⟩
        · refine ⟨_, rfl, rfl, _, rfl, ?_⟩
          cases hc : e.c with
          | none =>
            refine ifF rfl ⟨?_, Same.refl H9⟩
            show _ = [some (V.ref d), _, _, _, _, _, _, _, _, _, _, _, some (.int (tlv M i e.p - tlv M i e.t + lsum Ks e.l - hC (tlv M) e.c)), _, _, _]
            rw [hc]
            show _ = [some (V.ref d), _, _, _, _, _, _, _, _, _, _, _, some (.int (tlv M i e.p - tlv M i e.t + lsum Ks e.l - 0)), _, _, _]
            rw [Int.sub_zero]
            rfl
          | some cc =>
            have hcc := hoe.c cc hc
            obtain ⟨ntc, hntc⟩ : ∃ nt, W.ns[cc.toNat]? = some nt := ⟨_, List.getElem?_eq_getElem (by omega)⟩
            obtain ⟨ac, lc, hac, hlc, hlcl, eac⟩ := ml6 hntc
            have hpc := okw.pos ntc (List.mem_of_getElem? hntc)
            have hx0 : lc[(0 : Int).toNat]? = some (lc[0]'(by omega)) := List.getElem?_eq_getElem (by omega)
            have ht := tlv_at hlc hx0
            refine ifT rfl ⟨_, rfl, _, rfl, _, rfl, tl, _, cc, .ref ac, rfl, rfl, SqL.of (s69 _ _ etl6), atI_int hcc.1 (by rw [List.getElem?_map, hac] <;> rfl), ac, _, (0 : Nat), .int (tlv M cc.toNat 0), rfl, rfl, SqL.of (s69 _ _ eac), atI_nat (by rw [List.getElem?_map, ht]; exact congrArg (Option.map V.int) hx0), _, _, rfl, rfl, ?_⟩
            refine ⟨?_, Same.refl H9⟩
            show _ = [some (V.ref d), _, _, _, _, _, _, _, _, _, _, _, some (.int (tlv M i e.p - tlv M i e.t + lsum Ks e.l - hC (tlv M) e.c)), _, _, _]
            rw [hc]
            rfl
        rintro σ Ha ⟨rfl, s9a⟩
        have s6a := s69.trans s9a
        have e8a := s9a _ _ (s9 _ _ e8)
        refine ⟨_, rfl, .inl ⟨rfl, _, SqL.of e8a⟩, _, rfl, _, rfl, _, rfl, _, rfl, _, rfl, _, rfl, ae, many, _, rfl, rfl, s6a _ _ eae, hm12.1, by omega, by rw [List.length_map]; omega, fun r Hb sab er => ?_⟩
        refine ⟨(by show 5 ≤ sizeLine; decide), fun t ht => ?_⟩
        generalize hHc : upd Hb t _ = Hc
        obtain ⟨st, et⟩ := freshF ht hHc
        have sac := sab.trans st
        have e8c := sac _ _ e8a
        have er' : Hc r = some (.tup ((plE Ks M many i e).l.map V.int)) := by
          rw [st _ _ er]
          show some (HO.tup _) = some (HO.tup ((List.replicate many.toNat e.l).flatten.map V.int))
          rw [List.map_flatten, List.map_replicate]
        have hle : (plE Ks M many i e).l.length ≤ 6 := by
          show (List.replicate many.toNat e.l).flatten.length ≤ 6
          rw [List.length_flatten, List.map_replicate, List.sum_replicate_nat]
          rcases hmany with rfl | rfl
          · show 1 * e.l.length ≤ 6
            omega
          · show 2 * e.l.length ≤ 6
            omega
        have hoIV : ∀ g', DV g' Hc (oIV e.c) (oI e.c) := fun g' => by
          cases e.c with
          | none => exact .non
          | some z => exact .int z
        have hde : ∀ g', DV g' Hc (.ref t) (edD (plE Ks M many i e)) := fun g' => .tup et (by show 5 ≤ 20000; decide) (.cons (.int _) (.cons (.int _) (.cons (hoIV g') (.cons (.int _) (.cons (.tup er' (by rw [List.length_map]; omega) (dvs_ints _)) .nil)))))
        refine ⟨wl, ws, _, rfl, rfl, e8c, by rw [hwl8, sizeLine_eq]; have hj' : j < xe.length := hj; omega, ws ++ [.ref t], _, _, _, _, _, rfl, fun b o eb => ?_, upd_same, by rw [List.length_append, hwl8]; rfl, fun g' => ?_⟩
        · rw [upd_ne (ne_of_none eb hwl)]
          exact sac _ _ (s6a _ _ eb)
        · rw [List.take_succ, he, List.map_append, List.map_append]
          have kt : Kt Hc (upd Hc wl (.lst (ws ++ [.ref t]))) := Kt.put e8c
          exact (((hws g').keep (Kv.of (s9.trans (s9a.trans sac)))).keepP kt (eds_pur _)).app (.cons (DV.keepP (g := g') kt (ed_pur _) (hde g')) .nil)
      · rintro σ H8 ⟨ws, v9, v10, v11, v12, v13, rfl, s8, e8, hwl8, hws⟩
        rw [hxe, List.take_length] at hws
        have e6' := s8 _ _ e6
        refine ⟨_, rfl, .inl ⟨rfl, _, SqL.of e6'⟩, _, rfl, b3, _, 0, _, rfl, rfl, SqT.of (s8 _ _ eb3), atI_nat (j := 0) rfl, _, rfl, wl, ws, rfl, .inl ⟨SqL.of e8, fun l hl => ?_⟩⟩
        generalize hH9 : upd H8 l _ = H9
        obtain ⟨sl, el⟩ := freshF hl hH9
        refine ⟨(by show 2 ≤ sizeLine; decide), fun t ht => ?_⟩
        generalize hHa : upd H9 t _ = Ha
        obtain ⟨st, et⟩ := freshF ht hHa
        have s8a := sl.trans st
        have e6a := s8a _ _ e6'
        have hwsl : ws.length ≤ 7 := by rw [hwl8, hxe]; exact ne7
        have hdn : ∀ g', DV g' Ha (.ref t) (ntD (plN Ks M many i nt)) := fun g' => .tup et (by show 2 ≤ 20000; decide) (.cons (.int _) (.cons (.tup (st _ _ el) (by show ((nt.2.map (plE Ks M many i)).map edD).length ≤ 20000; rw [List.length_map, List.length_map]; omega) ((hws g').keep (Kv.of s8a))) .nil))
        refine ⟨zl, ns, _, rfl, rfl, e6a, by rw [hnsl, sizeLine_eq]; omega, ns ++ [.ref t], _, _, _, _, _, _, _, _, _, _, rfl, fun b o eb => ?_, fun b o hb e => ?_, upd_same, by rw [List.length_append, hnsl]; rfl, fun g' => ?_⟩
        · rw [upd_ne (ne_of_none eb hzl)]
          exact s8a _ _ (s8 _ _ (sT _ _ (s6z _ _ eb)))
        · rw [upd_ne hb]
          exact s8a _ _ (s8 _ _ (k6 _ _ hb e))
        · rw [List.take_succ, pn_at hnt, List.map_append]
          have kt : Kt Ha (upd Ha zl (.lst (ns ++ [.ref t]))) := Kt.put e6a
          exact (((hns g').keep (Kv.of (sT.trans (s8.trans s8a)))).keepP kt (nts_pur _)).app (.cons (DV.keepP (g := g') kt (nt_pur _) (hdn g')) .nil)
    rintro σ H6 ⟨ns, v5, v6, v8, v9, v10, v11, v12, v13, v14, v15, rfl, s6, k6, e6, hnsl, hns⟩
    rw [hnl, ← pnl, List.take_length] at hns
    have eb6 := k6 _ _ (by rintro rfl; rw [ezl] at eb5; cases eb5) eb5
    have ecl6 := s6 _ _ ecl4
    refine ⟨_, rfl, b0, _, 0, _, rfl, rfl, SqT.of eb6, atI_nat (j := 0) rfl, _, rfl, zl, ns, rfl, .inl ⟨SqL.of e6, fun t1 ht1 => ?_⟩⟩
    generalize hH7 : upd H6 t1 _ = H7
    obtain ⟨st1, et1⟩ := freshF ht1 hH7
    refine ⟨(by show 2 ≤ sizeLine; decide), fun t2 ht2 => ?_⟩
    generalize hH8 : upd H7 t2 _ = H8
    obtain ⟨st2, et2⟩ := freshF ht2 hH8
    refine ⟨_, rfl, cl, _, rfl, .inl ⟨SqL.of (st2 _ _ (st1 _ _ ecl6)), fun t3 ht3 => ?_⟩⟩
    generalize hH9 : upd H8 t3 _ = H9
    obtain ⟨st3, et3⟩ := freshF ht3 hH9
    refine ⟨(by show 2 ≤ sizeLine; decide), fun t4 ht4 => ?_⟩
    generalize hHa : upd H9 t4 _ = Ha
    obtain ⟨st4, et4⟩ := freshF ht4 hHa
    have s4a := s6.trans (st1.trans (st2.trans (st3.trans st4)))
    refine k t4 t3 (.ref t2) Ks M Ha et4 (fun g' => ?_) (st4 _ _ et3) PL ((S4.keep s4a).mono (by omega)) (kp4.trans (Kp.of s4a))
    have : wbD (plW Ks M many W) = .tup [.int W.lb, .tup (PN.map ntD)] := by rw [← hPN] <;> rfl
    rw [this]
    have s2a := st3.trans st4
    exact .tup (s2a _ _ et2) (by show 2 ≤ 20000; decide) (.cons (.int _) (.cons (.tup (s2a _ _ (st2 _ _ et1)) (by rw [List.length_map, pnl]; omega) ((hns g').keep (Kv.of (st1.trans (st2.trans s2a))))) .nil))
end
end K67

set_option Elab.async false
set_option linter.all false
set_option pp.maxSteps 900
set_option maxRecDepth 100000
set_option maxHeartbeats 4000000
namespace K67
open PySem PySem.Spec PyProof.Rows L2
open TL (tl)
theorem catA_of {K : PySem.W.Frag} {a b : Addr} {xs ys : List V} {H : Hp} {Q : VK} (ha : H a = some (.tup xs)) (hb : H b = some (.tup ys)) (hs : xs.length + ys.length ≤ sizeLine) (k : ∀ r H', Same H H' → H' r = some (.tup (xs ++ ys)) → Q (.ref r) H') : rCatA K (.ref a) (.ref b) H Q := by
  refine ⟨a, b, xs, ys, rfl, rfl, SqT.of ha, SqT.of hb, hs, fun h => k b H (Same.refl H) ?_, fun _ h => k a H (Same.refl H) ?_, fun _ _ p hp => k p _ (same_new hp) upd_same⟩
  · rw [h]
    exact hb
  · rw [h, List.append_nil]
    exact ha
theorem slA_of {K : PySem.W.Frag} {a : Addr} {xs : List V} {lo hi : Option Int} {H : Hp} {Q : VK} (ha : H a = some (.tup xs)) (k : ∀ r H', Same H H' → H' r = some (.tup (cutV xs lo hi)) → Q (.ref r) H') : rSlA K (.ref a) lo hi H Q := by
  refine ⟨a, xs, rfl, SqT.of ha, fun h => k a H (Same.refl H) ?_, fun _ p hp => k p _ (same_new hp) upd_same⟩
  unfold cutV
  rw [h.1, h.2, Nat.sub_zero, List.drop_zero, List.take_length]
  exact ha
theorem DVs.drop {g : Addr} {H : Hp} : ∀ {xs : List V} {ds : List Dt} (n : Nat), DVs g H xs ds → DVs g H (xs.drop n) (ds.drop n)
  | _, _, 0, h => h
  | _, _, _ + 1, .nil => .nil
  | _, _, n + 1, .cons _ r => DVs.drop n r
theorem DVs.take {g : Addr} {H : Hp} : ∀ {xs : List V} {ds : List Dt} (n : Nat), DVs g H xs ds → DVs g H (xs.take n) (ds.take n)
  | _, _, 0, h => .nil
  | _, _, _ + 1, .nil => .nil
  | _, _, n + 1, .cons h r => .cons h (DVs.take n r)
theorem DVs.cut {g : Addr} {H : Hp} {xs : List V} {ds : List Dt} (h : DVs g H xs ds) (lo hi : Option Int) : DVs g H (cutV xs lo hi) ((ds.drop (HT.sIx xs.length 0 lo)).take (HT.sIx xs.length xs.length hi - HT.sIx xs.length 0 lo)) := (h.drop _).take _
def AllDV (g : Addr) (H : Hp) (xs : List V) : Prop := ∀ x ∈ xs, ∃ d, DV g H x d
theorem AllDV.nil {g : Addr} {H : Hp} : AllDV g H [] := fun x hx => by cases hx
theorem AllDV.cons {g : Addr} {H : Hp} {x : V} {xs : List V} {d : Dt} (h : DV g H x d) (r : AllDV g H xs) : AllDV g H (x :: xs) := fun y hy => by
  rcases List.mem_cons.mp hy with rfl | hy
  · exact ⟨d, h⟩
  · exact r y hy
theorem AllDV.app {g : Addr} {H : Hp} {xs ys : List V} (h : AllDV g H xs) (r : AllDV g H ys) : AllDV g H (xs ++ ys) := fun y hy => by
  rcases List.mem_append.mp hy with hy | hy
  · exact h y hy
  · exact r y hy
theorem AllDV.keep {g : Addr} {H H' : Hp} {xs : List V} (h : AllDV g H xs) (k : Kv g H H') : AllDV g H' xs := fun y hy => by
  obtain ⟨d, e⟩ := h y hy
  exact ⟨d, e.keep k⟩
theorem ed_ok {pl nt lb : Int} {e : Ed} (h : OkE pl nt lb e) : edgeB pl nt lb (edD e) = true := by
  show ((intIn 0 (pl - 2) (.int e.p) && intIn 0 (pl - 1) (.int e.t)) && ((callB nt (oI e.c) && intIn (-1000000000) 1000000000 (.int e.b)) && toldB lb (.tup (e.l.map Dt.int)))) = true
  have h1 : intIn 0 (pl - 2) (.int e.p) = true := int_in.mpr ⟨_, rfl, h.p⟩
  have h2 : intIn 0 (pl - 1) (.int e.t) = true := int_in.mpr ⟨_, rfl, h.t⟩
  have h3 : callB nt (oI e.c) = true := by
    cases hc : e.c with
    | none => rfl
    | some c => exact int_in.mpr ⟨c, rfl, h.c c hc⟩
  have h4 : intIn (-1000000000) 1000000000 (.int e.b) = true := int_in.mpr ⟨_, rfl, h.b⟩
  have h5 : toldB lb (.tup (e.l.map Dt.int)) = true := by
    show (decide ((e.l.map Dt.int).length ≤ 8) && (e.l.map Dt.int).all (intIn 0 (lb - 1))) = true
    rw [List.length_map, decide_eq_true h.l, Bool.true_and]
    refine List.all_eq_true.mpr fun d hd => ?_
    obtain ⟨k, hk, rfl⟩ := List.mem_map.mp hd
    exact int_in.mpr ⟨k, rfl, h.k k hk⟩
  rw [h1, h2, h3, h4, h5] <;> rfl
theorem wb_ok {W : Web} (o : OkW W) : webB (wbD W) = true := by
  show (intIn 0 4000 (.int W.lb) && ((lenIn 1 400 (.tup (W.ns.map ntD)) && (W.ns.map ntD).all headB) && ((decide (((W.ns.map ntD).map net0).sum ≤ 4000) && decide (((W.ns.map ntD).map fun n => ((netEs n).length : Int)).sum ≤ 8000)) && (W.ns.map ntD).all fun n => (netEs n).all (edgeB (net0 n) (W.ns.map ntD).length W.lb)))) = true
  have m1 : (W.ns.map ntD).map net0 = W.ns.map (·.1) := by
    rw [List.map_map]
    rfl
  have m2 : ((W.ns.map ntD).map fun n => ((netEs n).length : Int)) = W.ns.map fun n => (n.2.length : Int) := by
    rw [List.map_map]
    refine List.map_congr_left fun n _ => ?_
    show (((n.2.map edD).length : Nat) : Int) = _
    rw [List.length_map]
  have h1 : intIn 0 4000 (.int W.lb) = true := int_in.mpr ⟨_, rfl, o.lb⟩
  have h2 : lenIn 1 400 (.tup (W.ns.map ntD)) = true := by
    show (decide ((1 : Int) ≤ ((W.ns.map ntD).length : Int)) && decide (((W.ns.map ntD).length : Int) ≤ 400)) = true
    rw [List.length_map, decide_eq_true (by have := o.n1; omega), decide_eq_true (by have := o.n4; omega)] <;> rfl
  have h3 : (W.ns.map ntD).all headB = true := by
    refine List.all_eq_true.mpr fun d hd => ?_
    obtain ⟨n, hn, rfl⟩ := List.mem_map.mp hd
    show (decide (1 ≤ n.1) && true) = true
    rw [decide_eq_true (o.pos n hn)] <;> rfl
  have h4 : ((W.ns.map ntD).all fun n => (netEs n).all (edgeB (net0 n) (W.ns.map ntD).length W.lb)) = true := by
    refine List.all_eq_true.mpr fun d hd => ?_
    obtain ⟨n, hn, rfl⟩ := List.mem_map.mp hd
    show (n.2.map edD).all (edgeB n.1 (W.ns.map ntD).length W.lb) = true
    refine List.all_eq_true.mpr fun e he => ?_
    obtain ⟨e, he2, rfl⟩ := List.mem_map.mp he
    rw [List.length_map]
    exact ed_ok (o.ed n hn e he2)
  rw [m1, m2, h1, h2, h3, h4, decide_eq_true o.sp, decide_eq_true o.se] <;> rfl
theorem oI_inj {a b : Option Int} (h : oI a = oI b) : a = b := by
  cases a <;> cases b <;> first | rfl | cases h
  rfl
theorem map_inj' {α β : Type} {f : α → β} (hf : ∀ a b, f a = f b → a = b) : ∀ {l m : List α}, l.map f = m.map f → l = m
  | [], [], _ => rfl
  | [], _ :: _, h => by cases h
  | _ :: _, [], h => by cases h
  | a :: l, b :: m, h => by
    rw [List.map_cons, List.map_cons] at h
    injection h with h1 h2
    rw [hf a b h1, map_inj' hf h2]
theorem ed_inj {a b : Ed} (h : edD a = edD b) : a = b := by
  obtain ⟨p, t, c, b1, l⟩ := a
  obtain ⟨p', t', c', b', l'⟩ := b
  unfold edD at h
  injection h with h
  injection h with h1 h
  injection h with h2 h
  injection h with h3 h
  injection h with h4 h
  injection h with h5 h
  injection h1 with h1
  injection h2 with h2
  injection h4 with h4
  injection h5 with h5
  have h3 := oI_inj h3
  have h5 := map_inj' (f := Dt.int) (fun a b h => by injection h) h5
  simp only at h1 h2 h3 h4 h5
  rw [h1, h2, h3, h4, h5]
theorem wb_inj {a b : Web} (h : wbD a = wbD b) : a = b := by
  obtain ⟨la, na⟩ := a
  obtain ⟨lb, nb⟩ := b
  unfold wbD at h
  injection h with h
  injection h with h1 h
  injection h with h2 h
  injection h1 with h1
  injection h2 with h2
  have h2 := map_inj' (f := ntD) (fun a b h => by
    obtain ⟨a1, a2⟩ := a
    obtain ⟨b1, b2⟩ := b
    unfold ntD at h
    injection h with h
    injection h with h1 h
    injection h with h2 h
    injection h1 with h1
    injection h2 with h2
    have h2 := map_inj' (fun a b h => ed_inj h) h2
    simp only at h1 h2
    rw [h1, h2]) h2
  simp only at h1 h2
  rw [h1, h2]
theorem purs_of {l : List Dt} (h : ∀ d ∈ l, pur d = true) : purs l = true := by
  rw [purs_all]
  exact List.all_eq_true.mpr h
theorem purs_app {a b : List Dt} (ha : purs a = true) (hb : purs b = true) : purs (a ++ b) = true := purs_of fun x hx => by
  rcases List.mem_append.mp hx with hx | hx
  · exact purs_mem ha hx
  · exact purs_mem hb hx
theorem textFrom_le : ∀ (ts : List Str) (k : Nat) (acc : Str), (textFrom k acc ts).length ≤ acc.length + piled ts
  | [], k, acc => Nat.le_refl _
  | t :: r, k, acc => by
    have h := textFrom_le r (k + 1) (acc ++ (if k > 0 then ", " else "" : String) ++ t)
    have e : (acc ++ (if k > 0 then ", " else "" : String) ++ t).length = acc.length + (if k > 0 then 2 else 0) + t.length := by
      rw [strLen_append, strLen_append]
      split <;> rfl
    have e2 : (if k > 0 then 2 else 0) ≤ 2 := by split <;> omega
    show (textFrom (k + 1) (acc ++ (if k > 0 then ", " else "" : String) ++ t) r).length ≤ _
    rw [piled_cons]
    generalize (if k > 0 then 2 else 0) = q at e e2
    rw [e] at h
    omega
theorem tupleText_le (ts : List Str) : (tupleText ts).length ≤ 3 + piled ts := by
  have e : ((("(" : String) : Str)).length = 1 := rfl
  have hj : (Str.join ", " ts).length ≤ piled ts := by
    by_cases h : ts = []
    · rw [h]
      exact Nat.zero_le _
    · have := join_length_add ts h
      omega
  show (("(" : Str) ++ Str.join ", " ts ++ (if ts.length == 1 then ",)" else ")" : String)).length ≤ _
  rw [strLen_append, strLen_append]
  have e3 : (((if ts.length == 1 then ",)" else ")" : String)) : Str).length ≤ 2 := by
    split
    · show 2 ≤ 2
      omega
    · show 1 ≤ 2
      omega
  omega
theorem piled_le {ts : List Str} {n : Nat} (h : ∀ t ∈ ts, t.length ≤ n) : piled ts ≤ ts.length * (n + 2) := by
  induction ts with
  | nil => simp [piled]
  | cons t ts ih =>
    rw [piled_cons, List.length_cons, Nat.add_mul]
    have := h t List.mem_cons_self
    have := ih fun x hx => h x (List.mem_cons_of_mem _ hx)
    omega
theorem int_len {x : Int} (h : x.natAbs.log2 < 100) : (PyData.shown (.int x)).length ≤ 101 := by
  have := int_text_length_le (k := 100) (by decide) h
  show (Str.ofString (toString x)).length ≤ 101
  rw [PySem.ofString_length]
  exact this
/-! ### the table of heights, as data -/
theorem dH_dep (W : Web) (h : Nat → Int → Int) (a p : Nat) : dep (dH W h a p) ≤ 0 := by
  unfold dH
  split <;> exact Nat.le_refl _
theorem htN_dep (W : Web) (h : Nat → Int → Int) (a : Nat) : dep (htN W h a) ≤ 1 := by
  show deps _ + 1 ≤ 1
  have : deps ((List.range ((W.ns[a]?.map fun n => n.1.toNat).getD 0)).map (dH W h a)) ≤ 0 := deps_le fun d hd => by
    obtain ⟨i, _, rfl⟩ := List.mem_map.mp hd
    exact dH_dep W h a i
  exact Nat.succ_le_succ this
theorem htD_dep (W : Web) (h : Nat → Int → Int) : dep (htD W h) ≤ 2 := by
  show deps _ + 1 ≤ 2
  have : deps ((List.range W.ns.length).map (htN W h)) ≤ 1 := deps_le fun d hd => by
    obtain ⟨i, _, rfl⟩ := List.mem_map.mp hd
    exact htN_dep W h i
  exact Nat.succ_le_succ this
def Small (W : Web) (h : Nat → Int → Int) : Prop := ∀ (a : Nat) (p : Int), UsP W a p → (h a p).natAbs.log2 < 100
def ShT (d : Dt) (n : Nat) : Prop := (toPy d).showable = true ∧ (toPy d).hasDict = false ∧ (toPy d).shown.length ≤ n
theorem dH_show {W : Web} {h : Nat → Int → Int} (s : Small W h) (a p : Nat) : ShT (dH W h a p) 101 := by
  unfold dH
  by_cases hu : usB W a ((p : Nat) : Int) = true
  · rw [if_pos hu]
    have := s a _ (usB_iff.mp hu)
    exact ⟨decide_eq_true (by omega), rfl, int_len this⟩
  · rw [if_neg hu]
    exact ⟨rfl, rfl, by show 4 ≤ 101; decide⟩
theorem shows {l : List Dt} {n : Nat} (h : ∀ d ∈ l, ShT d n) : PyData.showableAll (toPys l) = true ∧ PyData.hasDictAll (toPys l) = false ∧ (∀ t ∈ PyData.shownAll (toPys l), t.length ≤ n) ∧ (PyData.shownAll (toPys l)).length = l.length := by
  induction l with
  | nil => exact ⟨rfl, rfl, (fun t h => by cases h), rfl⟩
  | cons x l ih =>
    obtain ⟨i1, i2, i3, i4⟩ := ih fun d hd => h d (List.mem_cons_of_mem _ hd)
    obtain ⟨j1, j2, j3⟩ := h x List.mem_cons_self
    refine ⟨?_, ?_, fun t ht => ?_, ?_⟩
    · show ((toPy x).showable && PyData.showableAll (toPys l)) = true
      rw [i1, j1] <;> rfl
    · show ((toPy x).hasDict || PyData.hasDictAll (toPys l)) = false
      rw [i2, j2] <;> rfl
    · have ht : t ∈ (toPy x).shown :: PyData.shownAll (toPys l) := ht
      rcases List.mem_cons.mp ht with rfl | ht
      · exact j3
      · exact i3 t ht
    · show (PyData.shownAll (toPys l)).length + 1 = l.length + 1
      rw [i4]
theorem tup_show {l : List Dt} {n m : Nat} (h : ∀ d ∈ l, ShT d n) (hl : l.length ≤ m) : ShT (.tup l) (3 + m * (n + 2)) := by
  obtain ⟨i1, i2, i3, i4⟩ := shows h
  refine ⟨i1, i2, ?_⟩
  show (tupleText (PyData.shownAll (toPys l))).length ≤ _
  have p1 := piled_le i3
  rw [i4] at p1
  have p2 := tupleText_le (PyData.shownAll (toPys l))
  have p3 : l.length * (n + 2) ≤ m * (n + 2) := Nat.mul_le_mul_right _ hl
  omega
theorem duD_show {W : Web} {den : Int} {pr : List Int} (d : DrX W) (hp : pr.length = W.lb.toNat) (hs : ∀ h, Pot W (cst den pr) h → Small W h) : ShT (duD W den pr) 10000 ∧ dep (duD W den pr) ≤ 2 := by
  by_cases z : ∃ h, Pot W (cst den pr) h
  · obtain ⟨h, P⟩ := z
    rw [duD_of d.ok hp P]
    refine ⟨?_, htD_dep W h⟩
    have h1 : ∀ x ∈ (List.range W.ns.length).map (htN W h), ShT x (3 + 5 * 103) := fun x hx => by
      obtain ⟨a, _, rfl⟩ := List.mem_map.mp hx
      refine tup_show (fun y hy => ?_) ?_
      · obtain ⟨p, _, rfl⟩ := List.mem_map.mp hy
        exact dH_show (hs h P) a p
      · rw [List.length_map, List.length_range]
        cases e : W.ns[a]? with
        | none => exact Nat.zero_le _
        | some n =>
          have := d.p n (List.mem_of_getElem? e)
          show n.1.toNat ≤ 5
          omega
    have h2 := tup_show (l := (List.range W.ns.length).map (htN W h)) (m := 4) h1 (by rw [List.length_map, List.length_range]; exact d.n)
    exact ⟨h2.1, h2.2.1, Nat.le_trans h2.2.2 (by decide)⟩
  · rw [duD_no z]
    exact ⟨⟨rfl, rfl, by show 4 ≤ 10000; decide⟩, Nat.zero_le _⟩
/-- heights are small -/
theorem small_of {W : Web} {c : Ed → Int} {h : Nat → Int → Int} (d : DrX W) (B : BdH W) (P : Pot W c h) (hc : ∀ (a : Nat) (nt : Int × List Ed) (e : Ed), W.ns[a]? = some nt → e ∈ nt.2 → -(2 ^ 50) ≤ c e ∧ c e ≤ 2 ^ 50) : Small W h := by
  intro a p hu
  have hb := B c h (2 ^ 50) (by decide) P hc a p hu
  have hst : stN W.ns W.ns.length ≤ 20 := by
    rw [st_all]
    have : ∀ l : List (Int × List Ed), (∀ n ∈ l, n.1 ≤ 5) → (l.map fun n => n.1.toNat).sum ≤ 5 * l.length := by
      intro l
      induction l with
      | nil => intro _; exact Nat.le_refl _
      | cons x l ih =>
        intro h
        have h1 := ih fun n hn => h n (List.mem_cons_of_mem _ hn)
        have h2 := h x List.mem_cons_self
        rw [List.map_cons, List.sum_cons, List.length_cons]
        omega
    have h1 := this W.ns d.p
    have h2 := d.n
    omega
  have hp := pow_le hst
  have h2 : (2 : Int) ^ stN W.ns W.ns.length * 2 ^ 50 ≤ 2 ^ 20 * 2 ^ 50 := Int.mul_le_mul_of_nonneg_right hp (by decide)
  have h3 : (2 : Int) ^ 20 * 2 ^ 50 = 1180591620717411303424 := by decide
  have h4 : (h a p).natAbs ≤ 1180591620717411303424 := by omega
  by_cases hz : (h a p).natAbs = 0
  · rw [hz]
    decide
  · exact (Nat.log2_lt hz).mpr (Nat.lt_of_le_of_lt h4 (by decide))
end K67

set_option Elab.async false
set_option linter.all false
set_option pp.maxSteps 900
set_option maxRecDepth 100000
set_option maxHeartbeats 4000000
namespace K67
open PySem PySem.Spec PyProof.Rows L2
open TL (tl)
abbrev sCg : Stmt := top 51
/-! ### one edge's beats changed -/
theorem DVs.put {g : Addr} {H : Hp} {v : V} {d : Dt} (h : DV g H v d) : ∀ {xs : List V} {ds : List Dt} (i : Nat), DVs g H xs ds → DVs g H (xs.set i v) (ds.set i d)
  | _, _, _, .nil => .nil
  | _, _, 0, .cons _ r => .cons h r
  | _, _, i + 1, .cons h' r => .cons h' (DVs.put h i r)
def spCg : Sp := fun vs H Q _ => ∃ (d g c : Addr) (n : Nat) (vw : V) (W : Web), vs = [.ref d, vw] ∧ StA H d g c n ∧ n ≤ 800000000 ∧ DV g H vw (wbD W) ∧ DrX W ∧ (∀ n ∈ W.ns, ∀ e ∈ n.2, -4000 ≤ e.b ∧ e.b ≤ 4000) ∧
  ∀ (v : V) (W' : Web) (H' : Hp), DrX W' → W'.lb = W.lb → (∀ g', DV g' H' v (wbD W')) → StA H' d g c (n + 5) → Kp d g H H' → Q v H'
theorem chg_drx {W : Web} (d : DrX W) (hb : ∀ n ∈ W.ns, ∀ e ∈ n.2, -4000 ≤ e.b ∧ e.b ≤ 4000) {k j : Nat} {nt : Int × List Ed} {e : Ed} {x : Int} (hk : W.ns[k]? = some nt) (hj : nt.2[j]? = some e) (hx : -20 ≤ x ∧ x ≤ 20) : DrX ⟨W.lb, W.ns.set k (nt.1, nt.2.set j { e with b := e.b + x })⟩ := by
  have hm := List.mem_of_getElem? hk
  have hme := List.mem_of_getElem? hj
  have hlen : (W.ns.set k (nt.1, nt.2.set j { e with b := e.b + x })).length = W.ns.length := List.length_set
  refine drx_of ⟨d.ok.lb.1, d.lb⟩ (by rw [hlen]; exact d.ok.n1) (by rw [hlen]; exact d.n) (fun n hn => ?_) (fun n hn e' he' => ?_)
  · rcases List.mem_or_eq_of_mem_set hn with h | rfl
    · exact ⟨d.ok.pos n h, d.p n h, d.e n h⟩
    · exact ⟨d.ok.pos nt hm, d.p nt hm, by show (nt.2.set j _).length ≤ 7; rw [List.length_set]; exact d.e nt hm⟩
  · rw [hlen]
    rcases List.mem_or_eq_of_mem_set hn with h | rfl
    · exact d.ok.ed n h e' he'
    · have o := d.ok.ed nt hm
      rcases List.mem_or_eq_of_mem_set (show e' ∈ nt.2.set j { e with b := e.b + x } from he') with h | rfl
      · exact o e' h
      · have oe := o e hme
        have := hb nt hm e hme
        exact ⟨oe.p, oe.t, oe.c, by show -1000000000 ≤ e.b + x ∧ e.b + x ≤ 1000000000; omega, oe.l, oe.k⟩
theorem edges_shaped (es : List Ed) : SeqAt.shaped (toPy (.tup (es.map edD))) = true := by
  refine shaped_of (eds_pur es) ?_
  show deps (es.map edD) + 1 ≤ 64
  have : deps (es.map edD) ≤ 2 := deps_le fun x hx => by
    obtain ⟨e, _, rfl⟩ := List.mem_map.mp hx
    show max 0 (max 0 (max (dep (oI e.c)) (max 0 (max (deps (e.l.map Dt.int) + 1) 0)))) + 1 ≤ 2
    have h1 : dep (oI e.c) = 0 := by cases e.c <;> rfl
    have h2 : deps (e.l.map Dt.int) ≤ 0 := deps_le fun y hy => by
      obtain ⟨i, _, rfl⟩ := List.mem_map.mp hy
      exact Nat.le_refl _
    omega
  omega
theorem eqv_nil (es : List Ed) : PyData.eqv (toPy (.tup (es.map edD))) (toPy (.tup [])) = es.isEmpty := by
  cases es <;> rfl
section
variable {P : Program} {w : World} {K : PySem.W.Frag} {mg : Str → Option Value} {base : Heap}
theorem scCg : FnScope ["state", "web", "nets", "spots", "at", "edges", "spot", "edge", "net"] ["state", "web"] (defScope sCg) := ⟨rfl, rfl, rfl, by decide +kernel, rfl, by decide +kernel, by decide +kernel⟩
theorem ok_cg {f : Addr} {fd : FuncData} (F : Fun K "_law_wb_changed" "_law_wb_changed" sCg f fd) (T : Bn mg) (cD : Cl P w K mg base "_law_draw" ["state", "room"] 2 spDrw) (cP : Cl P w K mg base "_law_pick" ["state", "some"] 3 spPck) : FnOk P w K mg base CX0 4 f fd ["state", "web"] spCg := by
  obtain ⟨fD, fdD, GD, mD, kD, bD⟩ := cD
  obtain ⟨fP, fdP, GP, mP, kP, bP⟩ := cP
  refine F.ok scCg (fun vs H Q E h => ?_) (fun cdv A outer s H vs Q E hr h => ?_)
  · obtain ⟨d, g, c, n, vw, W, rfl, _⟩ := h
    rfl
  · obtain ⟨d, g, c, n, vw, W, rfl, S, hn, hw, dw, hbb, k⟩ := h
    have okw := dw.ok
    have hr2 : Room 2 _ := hr.mono (by decide)
    have hn4 := dw.n
    refine ⟨_, (pss_cons (ps_set (i := 2) scCg.nd rfl (Or.inl rfl) (pe_callTy call_list_of (by rfl) T.lst (by decide +kernel) (pa_cons (pe_ix ix_tup (pv 1) pe_int (fun _ _ => rfl)) pa_nil)))
      (pss_cons (ps_setLc (i := 3) (own := [("at", 4), ("net", 8)]) (g := gTup K 2 (gCons (gName 4) (gCons (gName 8) gNil))) (by rfl) scCg.nd rfl rfl (sw_true rfl rfl rfl (by decide +kernel)) (pi_enum (by rfl) T.enu (pa_cons (pv 2) pa_nil)) (blkOk_by (own := [("at", 4), ("net", 8)]) (N := ["state", "web", "nets", "spots", "at", "edges", "spot", "edge", "net"]) (sc := defScope sCg) (by decide +kernel)) (fun _ _ _ _ _ => (pg_tup (by rfl) (pgs_cons (pg_name (i := 4) scCg.nd rfl (Or.inl rfl)) (pgs_cons (pg_name (i := 8) scCg.nd rfl (Or.inl rfl)) pgs_nil)))) (fun _ _ _ _ _ => (pts_one (pt_cmpR (show OpR _ _ (rNeD K) from op_neD hr.units) (pe_ix (show IxR _ (rIxT K) from ix_tup) (pv 8) pe_int (fun _ _ => rfl)) (pe_tup pa_nil) (nomark _)))) (fun _ _ _ _ _ => (pv 4)))
      (pss_cons (ps_if (pt_cmpR (op_eqNil hr.units) (pv 3) (pe_lst pa_nil) (nomark _)) (pss_one (ps_ret (pv 1))) pss_nil)
      (pss_cons (ps_set (i := 4) scCg.nd rfl (Or.inl rfl) (pe_call GP hr (by rfl) mP kP bP .nil pass0 (pa_cons (pv 0) (pa_cons (pv 3) pa_nil))))
      (pss_cons (ps_set (i := 5) scCg.nd rfl (Or.inl rfl) (pe_callTy call_list_of (by rfl) T.lst (by decide +kernel) (pa_cons (pe_ix ix_tup (pe_ix ix_list (pv 2) (pv 4) (fun _ _ => rfl)) pe_int (fun _ _ => rfl)) pa_nil)))
      (pss_cons (ps_set (i := 6) scCg.nd rfl (Or.inl rfl) (pe_call GD hr2 (by rfl) mD kD bD .nil pass0 (pa_cons (pv 0) (pa_cons (pe_callB call_len_seq (by rfl) T.len PySem.boot_len (pa_cons (pv 5) pa_nil)) pa_nil))))
      (pss_cons (ps_set (i := 7) scCg.nd rfl (Or.inl rfl) (pe_ix ix_list (pv 5) (pv 6) (fun _ _ => rfl)))
      (pss_cons (ps_asg (pe_op op_catA (pe_slice sl_tupA (pv 7) po_none (po_some pe_int)) (pe_tup (pa_cons (pe_op op_add (pe_ix ix_tup (pv 7) pe_int (fun _ _ => rfl)) (pe_call GP hr (by rfl) mP kP bP .nil pass0 (pa_cons (pv 0) (pa_cons (pe_lst (pa_cons pe_int (pa_cons (pe_un un_neg pe_int) (pa_cons pe_int (pa_cons (pe_un un_neg pe_int) (pa_cons pe_int pa_nil)))))) pa_nil)))) (pa_cons (pe_ix ix_tup (pv 7) pe_int (fun _ _ => rfl)) pa_nil)))) (pg_sub (pv 5) (pv 6) set_list))
      (pss_cons (ps_asg (pe_tup (pa_cons (pe_ix ix_tup (pe_ix ix_list (pv 2) (pv 4) (fun _ _ => rfl)) pe_int (fun _ _ => rfl)) (pa_cons (pe_callTy call_tuple_of (by rfl) T.tpl (by decide +kernel) (pa_cons (pv 5) pa_nil)) pa_nil))) (pg_sub (pv 2) (pv 4) set_list))
      (pss_one (ps_ret (pe_tup (pa_cons (pe_ix ix_tup (pv 1) pe_int (fun _ _ => rfl)) (pa_cons (pe_callTy call_tuple_of (by rfl) T.tpl (by decide +kernel) (pa_cons (pv 2) pa_nil)) pa_nil)))))))))))))), ?_⟩
    have hw0 := hw
    obtain ⟨b0, c0, xn, rfl, eb0, ec0, rn⟩ := wb_at hw
    have hnl : xn.length = W.ns.length := by rw [rn.len, List.length_map]
    refine ⟨_, rfl, b0, _, 1, _, rfl, rfl, SqT.of eb0, atI_nat (j := 1) rfl, c0, xn, rfl, .inr (SqT.of ec0), fun zl hzl => ?_⟩
    generalize hH1 : upd H zl _ = H1
    obtain ⟨szl, ezl⟩ := freshF hzl hH1
    have S1 := S.keep szl
    refine ⟨_, rfl, zl, xn, rfl, SqL.of ezl, fun D hD => ?_⟩
    refine lc_it (walk_enum (K := K) (a := zl) (xs := xn)) (fun i H' => ∃ ss : List Int, H' D = some (.lst (ss.map V.int)) ∧ ss.length ≤ i ∧ Same H1 H' ∧ ∀ x ∈ ss, ∃ (k : Nat) (nt : Int × List Ed), x = (k : Nat) ∧ W.ns[k]? = some nt ∧ nt.2 ≠ []) ⟨[], upd_same, Nat.zero_le _, same_new hD, fun x hx => by cases hx⟩ (fun _ _ _ ⟨_, _, _, s, _⟩ => SqL.of (s _ _ ezl)) ?_ ?_
    · rintro i x H2z H2 hi ⟨ss, e2, hsl, s2, hss⟩ ⟨T0, x', y, rfl, hT, hH2, hx, hy⟩
      obtain rfl := Option.some.inj hx
      obtain ⟨sT, eT⟩ := freshF hT hH2.symm
      obtain ⟨dn, hdn, hyd⟩ := rn.at_ hy
      rw [List.getElem?_map] at hdn
      obtain ⟨nt, hnt, rfl⟩ := Option.map_eq_some_iff.mp hdn
      have s02 : Same H H2 := szl.trans (s2.trans sT)
      have hyd := DV.keepP (g' := g) (Kt.of s02) (nt_pur nt) hyd
      obtain ⟨b3, c3, xe, rfl, eb3, ec3, re⟩ := nt_at hyd
      have hi' : i < xn.length := hi
      refine ⟨T0, _, rfl, SqT.of eT, (by rfl), _, _, rfl, _, _, rfl, rfl, (by rfl), ?_⟩
      refine ⟨_, rfl, b3, _, 1, _, rfl, rfl, SqT.of eb3, atI_nat (j := 1) rfl, Nat.zero_le _, fun q hq => ?_⟩
      generalize hH3 : upd H2 q _ = H3
      obtain ⟨sq, eq⟩ := freshF hq hH3
      have e3 := sq _ _ (sT _ _ e2)
      have s13 := s2.trans (sT.trans sq)
      have hle : nt.2.length ≤ 20000 := by have := dw.e nt (List.mem_of_getElem? hnt); omega
      refine ⟨toPy (.tup (nt.2.map edD)), toPy (.tup []), dv_dp (g := g) (eds_pur nt.2) (.tup (sq _ _ ec3) (by rw [List.length_map]; exact hle) (re.keep (Kv.of sq))), dv_dp (g := g) (d := .tup []) rfl (.tup eq (Nat.zero_le _) .nil), edges_shaped nt.2, rfl, _, rfl, ?_⟩
      rw [eqv_nil]
      cases hE : nt.2.isEmpty with
      | true => exact ifF rfl ⟨ss, e3, by omega, s13, hss⟩
      | false =>
        refine ifT rfl ⟨_, rfl, _, e3, by rw [List.length_map, sizeLine_eq]; omega, ss ++ [((i : Nat) : Int)], by rw [upd_same, List.map_append] <;> rfl, by rw [List.length_append]; show ss.length + 1 ≤ _; omega, fun b o eb => ?_, fun x hx => ?_⟩
        · rw [upd_ne (ne_of_none eb hD)]
          exact s13 _ _ eb
        · rcases List.mem_append.mp hx with hx | hx
          · exact hss x hx
          · rw [List.mem_singleton.mp hx]
            exact ⟨i, nt, rfl, hnt, fun z => by rw [z] at hE; cases hE⟩
    rintro H2 ⟨ss, e2, hsl, s2, hss⟩
    have s02 := szl.trans s2
    have S2 := S.keep s02
    refine ⟨_, rfl, Nat.zero_le _, fun e0 he0 => ?_⟩
    generalize hH3 : upd H2 e0 _ = H3
    obtain ⟨se0, ee0⟩ := freshF he0 hH3
    refine ⟨D, e0, _, rfl, rfl, SqL.of (se0 _ _ e2), SqL.of ee0, _, rfl, ?_⟩
    have S3 := S2.keep se0
    have s03 := s02.trans se0
    by_cases hs0 : ss = []
    · subst hs0
      exact ifT rfl ⟨_, rfl, k _ W H3 dw rfl (fun g' => DV.keepP (Kt.of s03) (wb_pur W) hw0) (S3.mono (by omega)) (Kp.of s03)⟩
    refine ifF (by cases ss with | nil => exact absurd rfl hs0 | cons a b => rfl) ?_
    have hDg := S1.free hD
    refine ⟨_, rfl, _, rfl, d, g, c, D, n, _, rfl, S3, by omega, se0 _ _ e2, hDg.2.1, by simpa using hs0, by rw [List.length_map]; omega, fun v H4 hv S4 kp4 => ?_⟩
    obtain ⟨x, hx, rfl⟩ := List.mem_map.mp hv
    obtain ⟨kk, nt, rfl, hnt, hne⟩ := hss x hx
    have hkl := (List.getElem?_eq_some_iff.mp hnt).1
    have hxk : kk < xn.length := by rw [hnl]; exact hkl
    have hxv : xn[kk]? = some (xn[kk]'hxk) := List.getElem?_eq_getElem hxk
    generalize xn[kk]'hxk = vk at hxv
    obtain ⟨dn, hdn, hyd⟩ := rn.at_ hxv
    rw [List.getElem?_map, hnt] at hdn
    obtain rfl := Option.some.inj hdn
    have fz := S.free hzl
    have ezl4 := kp4 _ _ (se0 _ _ (s2 _ _ ezl)) fz.1 fz.2.1
    have k04 : Kp d g H H4 := (Kp.of s03).trans kp4
    have kt04 : Kt H H4 := (Kv.kp (g := g) S k04).tup
    have hyd4 := DV.keepP (g' := g) kt04 (nt_pur nt) hyd
    obtain ⟨b3, c3, xe, rfl, eb3, ec3, re⟩ := nt_at hyd4
    have hxe : xe.length = nt.2.length := by rw [re.len, List.length_map]
    have he7 := dw.e nt (List.mem_of_getElem? hnt)
    refine ⟨_, rfl, _, rfl, zl, xn, (kk : Nat), .ref b3, rfl, rfl, SqL.of ezl4, atI_nat hxv, b3, _, 1, _, rfl, rfl, SqT.of eb3, atI_nat (j := 1) rfl, c3, xe, rfl, .inr (SqT.of ec3), fun el hel => ?_⟩
    generalize hH5 : upd H4 el _ = H5
    obtain ⟨sel, eel⟩ := freshF hel hH5
    have S5 := S4.keep sel
    have fe := S4.free hel
    have hpos : 0 < nt.2.length := List.length_pos_iff.mpr hne
    refine ⟨_, rfl, _, rfl, el, xe, rfl, .inl (SqL.of eel), d, g, c, _, (xe.length : Nat), rfl, S5, by omega, by omega, by omega, fun u H6 u0 u1 S6 kp6 => ?_⟩
    obtain ⟨j, rfl⟩ := Int.eq_ofNat_of_zero_le u0
    have hjl : j < nt.2.length := by omega
    have hje : nt.2[j]? = some (nt.2[j]'hjl) := List.getElem?_eq_getElem hjl
    generalize nt.2[j]'hjl = e at hje
    have hxj : xe[j]? = some (xe[j]'(by omega)) := List.getElem?_eq_getElem (by omega)
    generalize xe[j]'_ = ve at hxj
    obtain ⟨de, hde, hxd⟩ := re.at_ hxj
    rw [List.getElem?_map, hje] at hde
    obtain rfl := Option.some.inj hde
    have eel6 := kp6 _ _ eel fe.1 fe.2.1
    have k46 : Kp d g H4 H6 := (Kp.of sel).trans kp6
    have kt46 : Kt H4 H6 := (Kv.kp (g := g) S4 k46).tup
    have hxd6 := DV.keepP (g' := g) kt46 (ed_pur e) hxd
    obtain ⟨be, ae, rfl, ebe, xl, eae, rl⟩ := ed_at hxd6
    refine ⟨_, rfl, _, rfl, el, xe, (j : Nat), .ref be, rfl, rfl, SqL.of eel6, atI_nat hxj, ?_⟩
    refine ⟨_, rfl, ?_⟩
    unfold tNoPart
    refine ⟨_, rfl, slA_of ebe fun r1 H7 s7 er1 => ?_⟩
    have er1 : H7 r1 = some (.tup [.int e.p, .int e.t, oIV e.c]) := er1
    have S7 := S6.keep s7
    have ebe7 := s7 _ _ ebe
    refine ⟨_, rfl, be, _, 3, _, rfl, rfl, SqT.of ebe7, atI_nat (j := 3) rfl, _, rfl, 1, rfl, 3, rfl, (by show 5 ≤ sizeLine; decide), fun q hq => ?_⟩
    generalize hH8 : upd H7 q _ = H8
    obtain ⟨sq, eq⟩ := freshF hq hH8
    have S8 := S7.keep sq
    refine ⟨d, g, c, q, _, _, rfl, S8, by omega, eq, (S7.free hq).2.1, by simp, (by show 5 ≤ 1000000; decide), fun v H9 hv S9 kp9 => ?_⟩
    obtain ⟨x, rfl, hx20⟩ : ∃ x : Int, v = .int x ∧ -20 ≤ x ∧ x ≤ 20 := by
      simp only [List.mem_cons, List.not_mem_nil, or_false] at hv
      rcases hv with rfl | rfl | rfl | rfl | rfl
      · exact ⟨1, rfl, by decide⟩
      · exact ⟨-1, rfl, by decide⟩
      · exact ⟨2, rfl, by decide⟩
      · exact ⟨-3, rfl, by decide⟩
      · exact ⟨12, rfl, by decide⟩
    have k79 : Kp d g H7 H9 := (Kp.of sq).trans kp9
    have kt79 : Kt H7 H9 := (Kv.kp (g := g) S7 k79).tup
    have ebe9 := kt79 _ _ ebe7
    refine ⟨_, _, rfl, rfl, _, rfl, be, _, 4, _, rfl, rfl, SqT.of ebe9, atI_nat (j := 4) rfl, (by show 2 ≤ sizeLine; decide), fun t ht => ?_⟩
    generalize hHa : upd H9 t _ = Ha
    obtain ⟨st, et⟩ := freshF ht hHa
    refine catA_of (st _ _ (kt79 _ _ er1)) et (by show 3 + 2 ≤ sizeLine; decide) fun r Hb sb er => ?_
    have er : Hb r = some (.tup [.int e.p, .int e.t, oIV e.c, .int (e.b + x), .ref ae]) := er
    have s9b := st.trans sb
    have k6b : Kp d g H6 Hb := (Kp.of s7).trans (k79.trans (Kp.of s9b))
    have eelb := k6b _ _ eel6 fe.1 fe.2.1
    have Sb := S9.keep s9b
    have k4b : Kp d g H4 Hb := k46.trans k6b
    have kt4b : Kt H4 Hb := (Kv.kp (g := g) S4 k4b).tup
    have kt6b : Kt H6 Hb := (Kv.kp (g := g) S6 k6b).tup
    generalize hE' : ({ e with b := e.b + x } : Ed) = e'
    have hdr : ∀ g', DV g' Hb (.ref r) (edD e') := fun g' => by
      have hl := ints_inv rl
      subst hl
      have hic : DV g' Hb (oIV e.c) (oI e.c) := by
        cases e.c with
        | none => exact .non
        | some z => exact .int z
      have h8 := (okw.ed nt (List.mem_of_getElem? hnt) e (List.mem_of_getElem? hje)).l
      rw [← hE']
      exact .tup er (by show 5 ≤ 20000; decide) (.cons (.int _) (.cons (.int _) (.cons hic (.cons (.int _) (.cons (.tup (kt6b _ _ eae) (by rw [List.length_map]; show e.l.length ≤ 20000; omega) (dvs_ints _)) .nil)))))
    refine ⟨_, rfl, _, rfl, el, xe, (j : Nat), j, rfl, rfl, eelb, ixN_at (by omega), ?_⟩
    have ktc : Kt Hb (upd Hb el (.lst (xe.set j (.ref r)))) := Kt.put eelb
    have Sc := Sb.upF (o := .lst (xe.set j (.ref r))) fe.1 fe.2.1 fe.2.2
    have hel0 : H el = none := k04.free S4 hel
    have k4c : Kp d g H4 (upd Hb el (.lst (xe.set j (.ref r)))) := k4b.upF hel
    have eelc : (upd Hb el (.lst (xe.set j (.ref r)))) el = some (.lst (xe.set j (.ref r))) := upd_same
    have hdsc : ∀ g', DVs g' (upd Hb el (.lst (xe.set j (.ref r)))) (xe.set j (.ref r)) ((nt.2.set j e').map edD) := fun g' => by
      rw [List.map_set]
      refine DVs.put (DV.keepP (g := g') ktc (ed_pur _) (hdr g')) j ?_
      exact DVs.keepP (g := g) (fun b l e => ktc _ _ (kt4b _ _ e)) (eds_pur _) re
    change (fun Hc => _) (upd Hb el (.lst (xe.set j (.ref r))))
    generalize upd Hb el (.lst (xe.set j (.ref r))) = Hc at ktc Sc k4c eelc hdsc ⊢
    have ezlc := k4c _ _ ezl4 fz.1 fz.2.1
    have kt4c : Kt H4 Hc := (Kv.kp (g := g) S4 k4c).tup
    refine ⟨_, rfl, _, rfl, zl, xn, (kk : Nat), .ref b3, rfl, rfl, SqL.of ezlc, atI_nat hxv, b3, _, 0, _, rfl, rfl, SqT.of (kt4c _ _ eb3), atI_nat (j := 0) rfl, _, rfl, el, _, rfl, .inl ⟨SqL.of eelc, fun l hl => ?_⟩⟩
    generalize hHd : upd Hc l _ = Hd
    obtain ⟨sl, el⟩ := freshF hl hHd
    refine ⟨(by show 2 ≤ sizeLine; decide), fun t2 ht2 => ?_⟩
    generalize hHe : upd Hd t2 _ = He
    obtain ⟨st2, et2⟩ := freshF ht2 hHe
    have sce := sl.trans st2
    have ezle := sce _ _ ezlc
    refine ⟨_, rfl, _, rfl, zl, xn, (kk : Nat), kk, rfl, rfl, ezle, ixN_at hxk, ?_⟩
    have hdn : ∀ g', DV g' He (.ref t2) (ntD (nt.1, nt.2.set j e')) := fun g' => .tup et2 (by show 2 ≤ 20000; decide) (.cons (.int _) (.cons (.tup (st2 _ _ el) (by rw [List.length_map, List.length_set]; omega) ((hdsc g').keep (Kv.of sce))) .nil))
    have ktf : Kt He (upd He zl (.lst (xn.set kk (.ref t2)))) := Kt.put ezle
    have Sf := (Sc.keep sce).upF (o := .lst (xn.set kk (.ref t2))) fz.1 fz.2.1 fz.2.2
    have k0f : Kp d g H (upd He zl (.lst (xn.set kk (.ref t2)))) := (k04.trans (k4c.trans (Kp.of sce))).upF hzl
    have ezlf : (upd He zl (.lst (xn.set kk (.ref t2)))) zl = some (.lst (xn.set kk (.ref t2))) := upd_same
    have hds : ∀ g', DVs g' (upd He zl (.lst (xn.set kk (.ref t2)))) (xn.set kk (.ref t2)) ((W.ns.set kk (nt.1, nt.2.set j e')).map ntD) := fun g' => by
      rw [List.map_set]
      refine DVs.put (DV.keepP (g := g') ktf (nt_pur _) (hdn g')) kk ?_
      exact DVs.keepP (g := g) (fun b l e => ktf _ _ (sce _ _ (kt4c _ _ (kt04 _ _ e)))) (nts_pur _) rn
    change (fun Hg => _) (upd He zl (.lst (xn.set kk (.ref t2))))
    generalize upd He zl (.lst (xn.set kk (.ref t2))) = Hf at ktf Sf k0f ezlf hds ⊢
    have eb0f := (Kv.kp (g := g) S k0f).tup _ _ eb0
    refine ⟨_, rfl, b0, _, 0, _, rfl, rfl, SqT.of eb0f, atI_nat (j := 0) rfl, _, rfl, zl, _, rfl, .inl ⟨SqL.of ezlf, fun t3 ht3 => ?_⟩⟩
    generalize hHg : upd Hf t3 _ = Hg
    obtain ⟨st3, et3⟩ := freshF ht3 hHg
    refine ⟨(by show 2 ≤ sizeLine; decide), fun t4 ht4 => ?_⟩
    generalize hHh : upd Hg t4 _ = Hh
    obtain ⟨st4, et4⟩ := freshF ht4 hHh
    have sfh := st3.trans st4
    refine k _ ⟨W.lb, W.ns.set kk (nt.1, nt.2.set j e')⟩ Hh (by rw [← hE']; exact chg_drx dw hbb hnt hje hx20) rfl (fun g' => ?_) ((Sf.keep sfh).mono (by omega)) (k0f.trans (Kp.of sfh))
    exact .tup et4 (by show 2 ≤ 20000; decide) (.cons (.int _) (.cons (.tup (st4 _ _ et3) (by rw [List.length_map, List.length_set]; omega) ((hds g').keep (Kv.of sfh))) .nil))
end
end K67

set_option Elab.async false
set_option linter.all false
set_option pp.maxSteps 900
set_option maxRecDepth 100000
set_option maxHeartbeats 4000000
namespace GD
open PySem PySem.Spec PyProof.Rows L2
/-- what is asked of the law's own def: its run where no repr is under way -/
def Start (P : Program) (w : World) (K : PySem.W.Frag) (mg : Str → Option Value) (fa a : Addr) (cs : List (Addr × Addr)) (ns : List Int) (s : Shared) : Prop :=
  ∀ (base : Heap) (H : Hp), (∀ p ∈ cs, LamX.TabB base mg p.1 p.2) → Env0 P w K mg base callerA [] s H → (∀ p ∈ cs, H p.2 = some (.tbl #[])) → SqL K H a (ns.map V.int) →
    codeAny (model P w) callerA (.call (.ref fa) ⟨[.ref a], []⟩) (CR CX0 [] P w H s (fun v _ => v = .bl true) fun _ _ _ => False) s
/-- the tracked objects at the start: the tables and, where the program's own objects don't hold it, the script -/
def hp0 (K : PySem.W.Frag) (ts : List Addr) (a : Addr) (o : Obj) (xs : List V) : Hp := fun b =>
  if b ∈ ts then some (.tbl #[]) else if b = a ∧ K.lookup a = none then some (.frz o (.lst xs)) else none
section
variable {K : PySem.W.Frag} {ts : List Addr} {a b : Addr} {o : Obj} {xs : List V} {u : HO}
theorem hp0_tab (h : b ∈ ts) : hp0 K ts a o xs b = some (.tbl #[]) := if_pos h
theorem hp0_cases (h : hp0 K ts a o xs b = some u) : (b ∈ ts ∧ u = .tbl #[]) ∨ (b ∉ ts ∧ b = a ∧ K.lookup a = none ∧ u = .frz o (.lst xs)) := by
  unfold hp0 at h
  by_cases h1 : b ∈ ts
  · rw [if_pos h1] at h
    exact .inl ⟨h1, (Option.some.inj h).symm⟩
  · rw [if_neg h1] at h
    by_cases h2 : b = a ∧ K.lookup a = none
    · rw [if_pos h2] at h
      exact .inr ⟨h1, h2.1, h2.2, (Option.some.inj h).symm⟩
    · rw [if_neg h2] at h
      cases h
theorem hp0_none (h1 : b ∉ ts) (h2 : b = a → K.lookup a ≠ none) : hp0 K ts a o xs b = none := by
  unfold hp0
  rw [if_neg h1, if_neg fun z => h2 z.1 z.2]
end
theorem law_start {P : Program} {w : World} {K : PySem.W.Frag} {mg mb : Str → Option Value} {fa a : Addr} {cs : List (Addr × Addr)} {s₁ : Shared} {vs : List Value} {ns : List Int}
    (KX : K.In s₁.heap) (hns : s₁.heap.Ns mainGlobals mg) (hb : s₁.heap.Ns builtinsNs mb) (hbb : ∀ x : Str, x ≠ "__name__" → mb x = bootBuiltins x) (hlim : s₁.heap.NoLimit) (hg : s₁.gens = #[])
    (hT : ∀ p ∈ cs, s₁.heap.get? p.2 = some { cls := .none, data := .fields #[] }) (nT : ∀ p ∈ cs, K.lookup p.2 = none) (C : ∀ p ∈ cs, PySem.W.CodeHd s₁.heap p.1 p.2)
    (hbm : ∃ (bm : Addr) (ob : Obj), mg "__builtins__" = some (.ref bm) ∧ bm ≠ builtinsNs ∧ s₁.heap.get? bm = some ob ∧ ob.cls = .type "module" ∧ ob.dict = some builtinsNs ∧ ob.data = .plain)
    (ha : s₁.heap.get? a = some { cls := .type "list", data := .seq vs.toArray }) (hi : IntsAre vs ns) (hl : ns.length ≤ sizeLine) (F : Start P w K mg fa a cs ns s₁) :
    codeAny (model P w) callerA (.call (.ref fa) ⟨[.ref a], []⟩) (fun r s' => r = .ok (.ret (.bool true)) ∧ OldK s₁.heap s'.heap ∧ s'.os = s₁.os ∧ AllBare s'.gens) s₁ := by
  have rv := vals_ints hi
  -- a table's object, an object that is no table
  have tab : ∀ {b : Addr}, b ∈ cs.map (·.2) → s₁.heap.get? b = some { cls := .none, data := .fields #[] } := fun {b} h => by
    obtain ⟨p, hp, rfl⟩ := List.mem_map.mp h
    exact hT p hp
  have aT : a ∉ cs.map (·.2) := fun z => by
    rw [tab z] at ha
    cases ha
  have hH : ∀ {b : Addr} {o : Obj}, s₁.heap.get? b = some o → (∀ x n, o.data ≠ .seq x n) → o.data ≠ .fields #[] → hp0 K (cs.map (·.2)) a { cls := .type "list", data := .seq vs.toArray } (ns.map V.int) b = none := fun {b o} e n1 n2 =>
    hp0_none (fun z => by rw [tab z] at e; cases e; exact n2 rfl) (fun z => by rw [z, ha] at e; cases e; exact absurd rfl (n1 _ _))
  generalize hHd : hp0 K (cs.map (·.2)) a { cls := .type "list", data := .seq vs.toArray } (ns.map V.int) = H at hH
  have cas : ∀ {b : Addr} {u : HO}, H b = some u → (b ∈ cs.map (·.2) ∧ u = .tbl #[]) ∨ (b ∉ cs.map (·.2) ∧ b = a ∧ K.lookup a = none ∧ u = .frz { cls := .type "list", data := .seq vs.toArray } (.lst (ns.map V.int))) := fun h => hp0_cases (by rw [hHd]; exact h)
  have hok : HOk P w H s₁.heap := fun b u h => by
    rcases cas h with ⟨h1, rfl⟩ | ⟨_, rfl, _, rfl⟩
    · exact tab h1
    · exact ⟨ha, by rw [List.length_map]; exact hl, vs, _, rv, ha⟩
  have nsK : ∀ {b : Addr} {m : Str → Option Value}, s₁.heap.Ns b m → (hidT s₁.heap H).Ns b m := fun {b m} ⟨o, es, ep, e, d, r⟩ => ⟨o, es, ep, hidT_get e (hH e (by rw [d]; intro _ _ z; cases z) (by rw [d]; intro z; cases z)), d, r⟩
  have hKb : K.In (hidT s₁.heap H) := fun b o e => hidT_get (KX b o e) (by
    rw [← hHd]
    refine hp0_none (fun z => ?_) fun z => by rw [← z, e]; intro q; cases q
    obtain ⟨p, hp, rfl⟩ := List.mem_map.mp z
    rw [nT p hp] at e
    cases e)
  have hM : L2.Mod K mg (hidT s₁.heap H) := ⟨hKb, nsK hns, ⟨mb, nsK hb, hbb⟩, hlim.imp fun mc h => ⟨nsK h.1, h.2⟩⟩
  have e0 : Env0 P w K mg (hidT s₁.heap H) callerA [] s₁ H :=
    ⟨rfl, hM, fun b o e => of_hidT e, Nat.le_of_eq (hidT_size _ _), trivial, fun b z => absurd (show b ∈ ([] : List Addr) from z) List.not_mem_nil, hok, .of_eq hg⟩
  have TB : ∀ p ∈ cs, LamX.TabB (hidT s₁.heap H) mg p.1 p.2 := fun p hp => by
    refine ⟨?_, ?_, fun z => ?_⟩
    · obtain ⟨o, us, file, tf, flags, tg, inF, text, tt, e1, r1, r2, r3, r⟩ := C p hp
      refine ⟨o, us, file, tf, flags, tg, inF, text, tt, hidT_get e1 (hH e1 (by rw [r2]; intro _ _ z; cases z) ?_), r1, r2, r3, r⟩
      rw [r2]
      intro z
      cases z
      simp at r3
    · obtain ⟨bm, ob, b1, b2, b3, b4, b5, b6⟩ := hbm
      refine ⟨bm, ob, b1, b2, fun z => ?_, fun z => ?_, hidT_get b3 (hH b3 (by rw [b6]; intro _ _ z; cases z) (by rw [b6]; intro z; cases z)), b4, b5, b6⟩
      · obtain ⟨o, es, ep, e, hd, _⟩ := hns
        rw [z, e] at b3
        cases b3
        rw [hd] at b6
        cases b6
      · rw [z, hT p hp] at b3
        cases b3
        cases b6
    · obtain ⟨o, es, ep, e, hd, _⟩ := hns
      rw [z, hT p hp] at e
      cases e
      cases hd
  have hS : SqL K H a (ns.map V.int) := by
    cases hk : K.lookup a with
    | none =>
      refine .inl (.inr ⟨{ cls := .type "list", data := .seq vs.toArray }, ?_⟩)
      rw [← hHd]
      unfold hp0
      rw [if_neg aT, if_pos ⟨rfl, hk⟩]
    | some o =>
      have e := KX a o hk
      rw [ha] at e
      cases e
      exact .inr ⟨_, vs.toArray, _, hk, rfl, rfl, rfl, by rw [List.size_toArray, hi.length]; exact hl, rv⟩
  have hTb : ∀ p ∈ cs, H p.2 = some (.tbl #[]) := fun p hp => by
    rw [← hHd]
    exact hp0_tab (List.mem_map.mpr ⟨p, hp, rfl⟩)
  refine codeAny_mono (F _ H TB e0 hTb hS) fun r s' h => ?_
  cases r with
  | error e => exact h.elim
  | ok fl =>
    cases fl with
    | next => exact h.elim
    | brk => exact h.elim
    | cont => exact h.elim
    | ret u =>
      obtain ⟨v, H', os, bare, un, hok', r', rfl⟩ := h
      obtain rfl : u = Value.bool true := r'
      have kept : ∀ b o, b ∉ cs.map (·.2) → s₁.heap.get? b = some o → s'.heap.get? b = some o := fun b o nb e => by
        cases q : H b with
        | none => exact un.keep b o e q (fun z => absurd (show b ∈ ([] : List Addr) from z) List.not_mem_nil) List.not_mem_nil
        | some u =>
          rcases cas q with ⟨z, _⟩ | ⟨_, rfl, _, rfl⟩
          · exact absurd z nb
          · obtain ⟨e2, _⟩ := hok' _ _ (un.frzs _ _ _ q)
            rw [ha] at e
            cases e
            exact e2
      refine ⟨rfl, ⟨fun b o e => ?_, fun b o e => ?_⟩, os, bare⟩
      · by_cases hb : b ∈ cs.map (·.2)
        · obtain ⟨p, hp, rfl⟩ := List.mem_map.mp hb
          obtain ⟨more, z⟩ := un.tbls p.2 #[] (hTb p hp)
          rw [hT p hp] at e
          cases e
          exact .inr (.inl ⟨((C p hp).tab (hT p hp)).isCodeTable, rfl, #[], _, rfl, hok' p.2 _ z⟩)
        · exact .inl (kept b o hb e)
      · by_cases hb : b ∈ cs.map (·.2)
        · obtain ⟨p, hp, rfl⟩ := List.mem_map.mp hb
          obtain ⟨more, z⟩ := un.tbls p.2 #[] (hTb p hp)
          exact ⟨_, hok' p.2 _ z⟩
        · exact ⟨o, kept b o hb e⟩
end GD

set_option Elab.async false
set_option linter.all false
set_option pp.maxSteps 900
set_option maxRecDepth 100000
set_option maxHeartbeats 4000000
namespace GD
open PySem PySem.Spec PyProof.Rows L2
/-! ### repr(x) of data, nothing under way -/
def rRepr (K : PySem.W.Frag) : List V → Hp → VK → Prop := fun xs H Q => ∃ (v : V) (d : PyData), xs = [v] ∧ Dp K H v d ∧ d.showable = true ∧ d.hasDict = false ∧ d.depth ≤ 64 ∧ d.shown.length ≤ sizeLine ∧ Q (.str d.shown) H
theorem call_reprD {X : Cx} (hg : X.A.guards = some []) (hu : X.A.units + 66 < cLine) : CallR X (.builtin "repr") (rRepr X.K) := by
  intro pins s σ H xs us Q I r h
  obtain ⟨v, d, rfl, hd, hs, hn, hdp, hsz, q⟩ := h
  obtain ⟨u, rfl, ru⟩ := vals1 r
  obtain ⟨as, rd⟩ := Dp.reads I d v u hd ru
  cases hd with
  | non =>
    cases ru
    exact P.repr_of_none ⟨.str _, H, I.tok _, ⟨_, rfl⟩, q⟩
  | bl b =>
    cases ru
    exact P.repr_of_bool ⟨.str _, H, I.tok _, ⟨_, rfl⟩, q⟩
  | int i =>
    obtain ⟨t, rfl⟩ := ru
    exact P.repr_of_int (of_decide_eq_true hs) ⟨.str _, H, I.tok _, ⟨_, rfl⟩, q⟩
  | str x =>
    obtain ⟨t, rfl⟩ := ru
    exact P.repr_of_str ⟨.str _, H, I.tok _, ⟨_, rfl⟩, q⟩ hsz
  | lst h1 h2 =>
    cases ru
    exact repr_of_reads' rd hs (fun e => by rw [hn] at e; cases e) hg (by omega) (fun _ _ e => e) (fun h' u tk hk => ⟨.str _, H, I.kept hk, ⟨_, rfl⟩, q⟩) hsz
  | tup h1 h2 =>
    cases ru
    exact repr_of_reads' rd hs (fun e => by rw [hn] at e; cases e) hg (by omega) (fun _ _ e => e) (fun h' u tk hk => ⟨.str _, H, I.kept hk, ⟨_, rfl⟩, q⟩) hsz
/-! ### the law's own def, run by the caller -/
theorem run_law {P : Program} {w : World} {K : PySem.W.Frag} {mg : Str → Option Value} {base : Heap} {A : Around} {k : Nat} {f : Addr} {name qual : Str} {params : Arguments} {body : List Stmt} {scope : Scope} {dV kV doc pm cdv ct oc : Value} {an od : Option Addr}
    {osl : Array (Option Value)} {N ps : List Str} {s : Shared} {H : Hp} {args : Args} {us : List Value} {vs : List V} {Q : VK} {E : XK}
    (lk : K.lookup f = some ⟨oc, od, .func (PySem.W.fnOf name qual params body scope dV kV doc pm an cdv ct), osl⟩) (hcd : PySem.W.codeIn K cdv qual = true) (S : FnScope N ps scope) (hr : Room (k + 1) A) (e0 : Env0 P w K mg base A [] s H)
    (hb : BindsTo s (PySem.W.fnOf name qual params body scope dV kV doc pm an cdv ct) args (ps.zip us)) (r : Vals vs us) (hl : vs.length = ps.length)
    (hbody : Room k (A.deeper (envOfC qual scope s.heap.objs.size f cdv)) → ∃ t, PSs (cxOf CX0 P w K mg base N qual scope f cdv A [] s H E) body t ∧ t { nx := fun _ H' => Q .non H', rt := Q } (start N vs) H) :
    codeAny (model P w) A (.call (.ref f) args) (CR CX0 [] P w H s Q E) s := by
  have KX : K.In s.heap := e0.mod.kin.keeps fun b o e => (e0.bs b o e).1
  have lim : s.heap.NoLimit := e0.mod.nolimit.keeps fun b o e => (e0.bs b o e).1
  have kinds : ∀ y ∈ ps.zip us, scope.names.lookup y.1 = some .local ∨ (scope.names.lookup y.1 = some .cell ∧ ((cellsFrom (s.heap.objs.size + 1) scope.names []).lookup y.1).isSome = true) := fun y hy =>
    (S.par y.1 (List.of_mem_zip (a := y.1) (b := y.2) hy).1).imp id fun q => ⟨q, PySem.W.cellsFrom_some _ _ _ (.inl q)⟩
  refine codeAny_call_function hr.depth (KX _ _ lk) rfl S.co S.gen rfl (PySem.W.codeRec_of KX hcd) (hb _ _ _ _ (wpAny_newFunctionEnv_cells S.kind kinds fun env he s1 x => ?_))
  subst he
  obtain ⟨t, ht, hq⟩ := hbody (hr.deeper _)
  refine ⟨lim.keeps x.toInCall.keep, codeAny_func (wpAny_mono (ht.run [] s1 (start N vs) H _ (inv_start S hr.hd e0 hl r x) hq) (fun fl s' hs => ?_) fun e s' hs => hs)⟩
  cases fl with
  | ret u =>
    obtain ⟨v, σ', H', J, rv, q⟩ := hs
    exact ⟨v, H', J.os, J.bare, J.base, J.hok, rv, q⟩
  | next =>
    obtain ⟨σ', H', J, q⟩ := hs
    exact ⟨V.non, H', J.os, J.bare, J.base, J.hok, rfl, q⟩
  | brk =>
    obtain ⟨_, _, _, q⟩ := hs
    exact q.elim
  | cont =>
    obtain ⟨_, _, _, q⟩ := hs
    exact q.elim
/-- the def's own surroundings: no repr is under way there -/
theorem deeper_guards (env : Env) : (callerA.deeper env).guards = some [] := rfl
/-! ### the whole -/
def LawG (l : PySem.W.OpenLaw) (w : World) (K : PySem.W.Frag) (n : Nat) (mg : Str → Option Value) (fa : Addr) (h : Heap) : Prop :=
  ∃ cs : List (Addr × Addr), (∀ p ∈ cs, h.get? p.2 = some { cls := .none, data := .fields #[] }) ∧ (∀ p ∈ cs, K.lookup p.2 = none) ∧ (∀ p ∈ cs, PySem.W.CodeHd h p.1 p.2) ∧
    ∀ (s : Shared) (a : Addr) (ns : List Int), ns.length ≤ n → (∀ z ∈ ns, Builtin.Int.intBits z ≤ 1048576) → Start l.prog w K mg fa a cs ns s
theorem walk_G {l : PySem.W.OpenLaw} {n : Nat} {q : Program} {loose : List Str} {XP : (Str → Option Value) → Heap → Prop} {YP : World → Heap → Prop} {d : DefRec} {K : Params → PySem.W.Frag}
    (hn : l.most = some n) (hn2 : n ≤ sizeLine) (hdf : d.params.defaults = []) (hY : ∀ (w : World) (h : Heap), YP w h → (K w.params).In h)
    (F : ∀ (w : World) (mg : Str → Option Value) (fa : Addr) (h : Heap), YP w h → (K w.params).In h → h.Ns mainGlobals mg → mg d.name = some (.ref fa) → LawG l w (K w.params) n mg fa h) :
    PySem.W.WalkO q loose XP YP l.row.toRowW d [] (fun f vs => PySem.call f vs) := by
  refine Att.attach_callB hn hdf fun w s₀ s₁ mg mb fa o pm cd doc a vs ns G Y ho hd hcd hmg hobj hints hlen hbits hg => ?_
  have KX := hY w _ Y
  obtain ⟨cs, hT, nT, C, hF⟩ := F w mg fa _ Y KX G.T.g hmg
  exact law_start KX G.T.g G.T.b G.T.builtins G.T.nolimit hg hT nT C G.T.bmain hobj hints (Nat.le_trans hlen hn2) (hF s₁ a ns hlen hbits)
end GD

set_option Elab.async false
set_option linter.all false
set_option pp.maxSteps 900
set_option maxRecDepth 100000
set_option maxHeartbeats 8000000
namespace K67
open PySem PySem.Spec PyProof.Rows L2
open LamX (GivesTo CodeO Tabs TabS TabB tLam pe_lamcall lamCx lamEnv lamS_by ExtN)
open TL (tl)
abbrev sRf : Stmt := top 53
abbrev qLam : Str := ("_law_refused" : Str) ++ ".<locals>." ++ "<lambda>"
abbrev tbs (T1 : Addr) : List (Addr × Str) := [(T1, qLam)]
theorem tbs_1 {T1 : Addr} : ∀ p ∈ tbs T1, p.1 = T1 → p.2 = qLam := fun p hp e => by
  rw [List.mem_singleton.mp hp]
/-! ### a kept error without a dict -/
def rIsH0 (K : PySem.W.Frag) (D : Addr) : List V → Hp → VK → Prop := fun xs H Q => ∃ (a : Addr) (c : V) (cv : Value) (b : Bool), xs = [.ref a, c] ∧ (∀ u, RelV c u → u = cv) ∧ H a = some (exh a (.ref D) none) ∧
  PySem.W.kitOne K (.ref D) cv = some b ∧ Q (.bl b) H
theorem call_isH0 {X : Cx} {D : Addr} (C : ExcC X.K D) : CallR X (.builtin "isinstance") (rIsH0 X.K D) := by
  intro pins s σ H xs us Q I r h
  obtain ⟨a, c, cv, b, rfl, hcv, h1, e, q⟩ := h
  obtain ⟨u1, u2, rfl, r1, r2⟩ := vals2 r
  cases r1
  have ec := hcv _ r2
  subst ec
  obtain ⟨oe, vs, ha, hz, hd⟩ := exh_at I.hok h1
  have J : PySem.W.InstAt s.heap a oe D none := ⟨ha, hz.1, by unfold PySem.W.notCls; rw [hd] <;> rfl, by rw [hz.2]; trivial⟩
  have hcl : (PySem.W.clsIn X.K D).isSome = true := by
    obtain ⟨cd, hc, _⟩ := PySem.W.any_some C.hd
    rw [hc]
    rfl
  exact PySem.W.kia_one (PySem.W.kitx_exc hcl C.hg C.hk C.hs C.ha C.hn C.ht C.hm) I.kIn J e (fun z => nomatch z) fun tk => ⟨.bl b, H, I.kept (t' := tk) fun _ _ z => z, rfl, q⟩
theorem kit_self {K : PySem.W.Frag} {S : Addr} : PySem.W.kitOne K (.ref S) (.ref S) = some true := by
  unfold PySem.W.kitOne
  rw [if_pos (beq_self_eq_true _)]
theorem Kv.extN {g : Addr} {H H' : Hp} (k : ExtN H H') : Kv g H H' := ⟨fun b xs e _ => k _ _ e (fun _ z => by cases z), fun b xs e => k _ _ e (fun _ z => by cases z), fun b e => k _ _ e (fun _ z => by cases z)⟩
theorem StA.extN {H H' : Hp} {d g c : Addr} {n : Nat} (S : StA H d g c n) (k : ExtN H H') : StA H' d g c n := by
  obtain ⟨r, tt, gs, cs, S⟩ := S
  exact ⟨r, tt, gs, cs, { S with dk := k _ _ S.dk (fun _ z => by cases z), gl := k _ _ S.gl (fun _ z => by cases z), cl := k _ _ S.cl (fun _ z => by cases z) }⟩
theorem tabs_but {T : List (Addr × Str)} {H H' : Hp} (t : Tabs T H) (k : ∀ b o, H b = some o → (∀ kv, o ≠ .dK kv) → (∀ xs, o ≠ .lst xs) → H' b = some o) : Tabs T H' := fun p hp => by
  obtain ⟨ps, h1, h2, h3⟩ := t p hp
  refine ⟨ps, k _ _ h1 (fun _ z => by cases z) (fun _ z => by cases z), h2, fun pos cv hc => ?_⟩
  obtain ⟨c', e1, e2⟩ := h3 pos cv hc
  exact ⟨c', e1, k _ _ e2 (fun kv z => by unfold CodeO at z; cases z) (fun xs z => by unfold CodeO at z; cases z)⟩
theorem tabs_kp {T : List (Addr × Str)} {H H' : Hp} {d g c : Addr} {n : Nat} (t : Tabs T H) (S : StA H d g c n) (k : Kp d g H H') : Tabs T H' := by
  obtain ⟨r, tt, gs, cs, S⟩ := S
  refine tabs_but t fun b o e n1 n2 => k b o e (fun z => ?_) (fun z => ?_)
  · rw [z] at e
    exact n1 _ (Option.some.inj (e.symm.trans S.dk))
  · rw [z] at e
    exact n2 _ (Option.some.inj (e.symm.trans S.gl))
theorem DVs.pick {g : Addr} {H : Hp} {v : V} : ∀ {xs : List V} {ds : List Dt}, DVs g H xs ds → v ∈ xs → ∃ d, d ∈ ds ∧ DV g H v d
  | _, _, .nil, h => by cases h
  | _, _, .cons (v := x) (vs := xs) (d := d) h r, m => by
    rcases List.mem_cons.mp m with rfl | m
    · exact ⟨d, List.mem_cons_self, h⟩
    · obtain ⟨d', h1, h2⟩ := r.pick m
      exact ⟨d', List.mem_cons_of_mem _ h1, h2⟩
/-- a def that is called with keywords too -/
def ClK (CX : CXT) (P : Program) (w : World) (K : PySem.W.Frag) (mg : Str → Option Value) (base : Heap) (x : Str) (p : Str) (k : Nat) (sp : Sp) : Prop :=
  ∃ f fd, FnOk P w K mg base CX k f fd [p] sp ∧ mg x = some (.ref f) ∧ PySem.W.keepIn K (.ref f) = true ∧ L2.Binds K fd [p] [] ∧ KBinds K fd [p] [p] (fun us ws => us ++ ws) (fun us ws => us ++ ws)
/-- the errors that the law keeps -/
structure Ek (K : PySem.W.Frag) (mg : Str → Option Value) (x : Str) (CE C : Addr) : Prop where
  m : mg x = some (.ref C)
  exm : PySem.W.exmOne K (.ref C) (.ref CE) = some true
  exc : ExcC K C
structure MgC (mg : Str → Option Value) (K : PySem.W.Frag) (CE fCgt : Addr) : Prop where
  cgt : mg "_law_caught" = some (.ref fCgt)
  kcgt : PySem.W.keepIn K (.ref fCgt) = true
  ce : mg "ClockError" = some (.ref CE)
theorem tabs_put {T : List (Addr × Str)} {H : Hp} {p : Addr} {l l' : List V} (t : Tabs T H) (h : H p = some (.lst l)) : Tabs T (upd H p (.lst l')) := by
  refine tabs_but t fun b o e n1 n2 => ?_
  have hb : b ≠ p := fun z => by
    rw [z, h] at e
    exact n2 _ (Option.some.inj e).symm
  rw [upd_ne hb]
  exact e


def spRf (T1 : Addr) : Sp := fun vs H Q _ => ∃ (d g c cp : Addr) (n : Nat) (vw : V) (W : Web) (pr : List Int), vs = [.ref d, vw, .ref cp] ∧ Tabs (tbs T1) H ∧ StA H d g c n ∧ n ≤ 800000000 ∧ DV g H vw (wbD W) ∧ OkW W ∧ H cp = some (.tup (pr.map V.int)) ∧ pr.length = W.lb.toNat ∧ ∀ H', Q (.bl true) H'
theorem den_bad {v : V} {g : Addr} {H : Hp} {p : Addr} (hp : H p = some (.tup [.int 1])) (hv : v ∈ [V.int 0, .int (-1), .bl true, .non, .str "1", .ref p]) : ∃ d, DV g H v d ∧ denB d = false := by
  simp only [List.mem_cons, List.not_mem_nil, or_false] at hv
  rcases hv with rfl | rfl | rfl | rfl | rfl | rfl
  · exact ⟨_, .int _, rfl⟩
  · exact ⟨_, .int _, rfl⟩
  · exact ⟨_, .bl _, rfl⟩
  · exact ⟨_, .non, rfl⟩
  · exact ⟨_, .str (by decide), rfl⟩
  · exact ⟨.tup [.int 1], .tup hp (by show 1 ≤ 20000; decide) (.cons (.int _) .nil), rfl⟩
section
variable {P : Program} {w : World} {K : PySem.W.Frag} {mg : Str → Option Value} {base : Heap}
theorem scRf : FnScope ["state", "web", "prices", "bad", "other"] ["state", "web", "prices"] (defScope sRf) := ⟨rfl, rfl, rfl, by decide +kernel, rfl, by decide +kernel, by decide +kernel⟩
theorem ok_rf {f cL T1 CE C1 C2 C3 fCgt fHe : Addr} {oc kV doc pm ct : Value} {od an : Option Addr} {sl : Array (Option Value)} {ocg kVg docg pmg cdg ctg : Value} {odg ang : Option Addr} {slg : Array (Option Value)} {fdHe : FuncData}
    (lk : K.lookup f = some ⟨oc, od, .func (PySem.W.fnOf "_law_refused" "_law_refused" (defArgs sRf) (defBody sRf) (defScope sRf) .none kV doc pm an (.ref cL) ct), sl⟩) (hcd : PySem.W.codeIn K (.ref cL) "_law_refused" = true)
    (lkg : K.lookup fCgt = some ⟨ocg, odg, .func (PySem.W.fnOf "_law_caught" "_law_caught" (defArgs sCgt) (defBody sCgt) (defScope sCgt) .none kVg docg pmg ang cdg ctg), slg⟩) (hcg : PySem.W.codeIn K cdg "_law_caught" = true)
    (bCgt : L2.Binds K (PySem.W.fnOf "_law_caught" "_law_caught" (defArgs sCgt) (defBody sCgt) (defScope sCgt) .none kVg docg pmg ang cdg ctg) ["action"] [])
    (B : Bn mg) (T : MgC mg K CE fCgt) (E1 : Ek K mg "BadWeb" CE C1) (E2 : Ek K mg "BadDen" CE C2) (E3 : Ek K mg "BadPrices" CE C3) (TB : TabB base mg cL T1)
    (cP : Cl P w K mg base "_law_pick" ["state", "some"] 3 spPck) (GHe : FnOk P w K mg base (L2.CX P w) 6 fHe fdHe ["web", "den", "prices"] (spHe C1 C2 C3)) (mHe : mg "heights" = some (.ref fHe)) (kHe : PySem.W.keepIn K (.ref fHe) = true) (bHe : L2.Binds K fdHe ["web", "den", "prices"] []) :
    FnOk P w K mg base CX0 9 f (PySem.W.fnOf "_law_refused" "_law_refused" (defArgs sRf) (defBody sRf) (defScope sRf) .none kV doc pm an (.ref cL) ct) ["state", "web", "prices"] (spRf T1) := by
  obtain ⟨fP, fdP, GP, mP, kP, bP⟩ := cP
  refine fn_of lk hcd scRf (fun vs H Q E h => ?_) fun A outer s H vs Q E hr h => ?_
  · obtain ⟨d, g, c, cp, n, vw, W, pr, rfl, _⟩ := h
    rfl
  · obtain ⟨d, g, c, cp, n, vw, W, pr, rfl, X0, S, hn, hw, okw, hcp, hpl, k⟩ := h
    have hr3 : Room 3 _ := hr.mono (by decide)
    have hr10 : Room 8 _ := hr
    refine ⟨_, PSs.nox (pss_cons (ps_set (i := 3) scRf.nd rfl (Or.inr rfl) (pe_call GP hr3 (by rfl) mP kP bP .nil pass0 (pa_cons (pv 0) (pa_cons (pe_lst (pa_cons pe_int (pa_cons (pe_un un_neg pe_int) (pa_cons pe_bl (pa_cons pe_non (pa_cons pe_str (pa_cons (pe_tup (pa_cons pe_int pa_nil)) pa_nil))))))) pa_nil))))
      (pss_cons (ps_if (pt_not (pt_val (pe_callB (call_isH0 E1.exc) (by rfl) B.isi (by decide +kernel) (pa_cons (pe_lamcall (k := 6) (by rfl) T.cgt T.kcgt lkg hcg bCgt scC rfl (Or.inl rfl) (caught_gives T.ce) TB rfl (List.mem_cons_self ..) tbs_1 hr10 (lamS_by (by show LamX.lamSB (defScope sRf) _ = true; decide +kernel)) rfl (fun _ _ _ _ _ => rfl)
              (fun A outer s H E f c' hr2 => pe_call GHe (hr2.mono (by decide)) (by rfl) mHe kHe bHe .nil (passes_call (takes_of rfl rfl rfl rfl) (fun _ _ _ _ h => h)) (pa_cons (pe_lst (pa_cons (pv 1) pa_nil)) (pa_cons (pv 3) (pa_cons pe_non pa_nil))))) (pa_cons (pe_glob (v := .ref C1) (by rfl) E1.m rfl) pa_nil))))) (pss_one (ps_ret pe_bl)) pss_nil)
      (pss_cons (ps_if (pt_not (pt_val (pe_callB (call_isH0 E2.exc) (by rfl) B.isi (by decide +kernel) (pa_cons (pe_lamcall (k := 6) (by rfl) T.cgt T.kcgt lkg hcg bCgt scC rfl (Or.inl rfl) (caught_gives T.ce) TB rfl (List.mem_cons_self ..) tbs_1 hr10 (lamS_by (by show LamX.lamSB (defScope sRf) _ = true; decide +kernel)) rfl (fun _ _ _ _ _ => rfl)
              (fun A outer s H E f c' hr2 => pe_call GHe (hr2.mono (by decide)) (by rfl) mHe kHe bHe .nil (passes_call (takes_of rfl rfl rfl rfl) (fun _ _ _ _ h => h)) (pa_cons (pv 1) (pa_cons (pv 3) (pa_cons pe_non pa_nil))))) (pa_cons (pe_glob (v := .ref C2) (by rfl) E2.m rfl) pa_nil))))) (pss_one (ps_ret pe_bl)) pss_nil)
      (pss_cons (ps_set (i := 4) scRf.nd rfl (Or.inr rfl) (pe_call GP hr3 (by rfl) mP kP bP .nil pass0 (pa_cons (pv 0) (pa_cons (pe_lst (pa_cons (pe_op op_catA (pv 2) (pe_tup (pa_cons pe_int pa_nil))) (pa_cons (pe_op op_cat (pe_callTy call_list_of (by rfl) B.lst (by decide +kernel) (pa_cons (pv 2) pa_nil)) (pe_lst (pa_cons pe_int pa_nil))) (pa_cons pe_non (pa_cons (pe_op op_catA (pv 2) (pe_tup (pa_cons pe_bl pa_nil))) (pa_cons pe_int (pa_cons (pe_op op_cat (pe_callTy call_list_of (by rfl) B.lst (by decide +kernel) (pa_cons (pv 2) pa_nil)) (pe_lst (pa_cons pe_non pa_nil))) pa_nil))))))) pa_nil))))
      (pss_one (ps_ret (pe_callB (call_isH0 E3.exc) (by rfl) B.isi (by decide +kernel) (pa_cons (pe_lamcall (k := 6) (by rfl) T.cgt T.kcgt lkg hcg bCgt scC rfl (Or.inl rfl) (caught_gives T.ce) TB rfl (List.mem_cons_self ..) tbs_1 hr10 (lamS_by (by show LamX.lamSB (defScope sRf) _ = true; decide +kernel)) rfl (fun _ _ _ _ _ => rfl)
              (fun A outer s H E f c' hr2 => pe_call GHe (hr2.mono (by decide)) (by rfl) mHe kHe bHe .nil (passes_call (takes_of rfl rfl rfl rfl) (fun _ _ _ _ h => h)) (pa_cons (pv 1) (pa_cons pe_int (pa_cons (pv 4) pa_nil))))) (pa_cons (pe_glob (v := .ref C3) (by rfl) E3.m rfl) pa_nil))))))))), ?_⟩
    refine ⟨_, rfl, 1, rfl, (by show 1 ≤ sizeLine; decide), fun tp htp => ?_⟩
    generalize hH1 : upd H tp _ = H1
    obtain ⟨stp, etp⟩ := freshF htp hH1
    refine ⟨(by show 6 ≤ sizeLine; decide), fun q hq => ?_⟩
    generalize hH2 : upd H1 q _ = H2
    obtain ⟨sq, eq⟩ := freshF hq hH2
    have s02 := stp.trans sq
    have S2 := S.keep s02
    refine ⟨d, g, c, q, n, _, rfl, S2, by omega, eq, ((S.keep stp).free hq).2.1, by simp, (by show 6 ≤ 1000000; decide), fun v H3 hv S3 kp3 => ?_⟩
    have X3 : Tabs (tbs T1) H3 := tabs_kp (X0.ext s02) S2 kp3
    have kv3 : Kv g H H3 := (Kv.of s02).trans (Kv.kp S2 kp3)
    have ktp3 : H3 tp = some (.tup [.int 1]) := (Kv.kp (g := g) S2 kp3).tup _ _ (sq _ _ etp)
    obtain ⟨db, hdb, hden⟩ := den_bad (g := g) ktp3 hv
    have hw3 := hw.keep kv3
    have hcp3 := kv3.tup _ _ hcp
    clear hv ktp3 etp eq htp hq
    -- BadWeb
    refine ⟨X3, fun H4 e4 X4 => ?_⟩
    have S4 := S3.extN e4
    have hw4 := hw3.keep (Kv.extN e4)
    have hdb4 := hdb.keep (Kv.extN e4)
    have hcp4 := (Kv.extN (g := g) e4).tup _ _ hcp3
    refine ⟨_, rfl, (by show 1 ≤ sizeLine; decide), fun lw hlw => ?_⟩
    generalize hH5 : upd H4 lw _ = H5
    obtain ⟨slw, elw⟩ := freshF hlw hH5
    have nlg := (S4.free hlw).2.1
    refine ⟨_, rfl, g, .ref lw, v, .non, .lst [wbD W], db, .non, rfl, .lst elw nlg (by show 1 ≤ 20000; decide) (.cons (hw4.keep (Kv.of slw)) .nil), hdb4.keep (Kv.of slw), .non, (fun _ H6 s6 => ⟨true, E1.exm, fun _ b hb => ?_, fun z => nomatch z⟩), (fun W' e => by cases e), (fun W' e => by cases e), fun W' den pr e => by cases e⟩
    generalize hH7 : upd H6 b _ = H7
    obtain ⟨s7, e7⟩ := freshF hb hH7
    refine ⟨b, _, _, true, rfl, (fun u h => h), e7, kit_self, _, rfl, ifF rfl ?_⟩
    have s47 := slw.trans (s6.trans s7)
    have S7 := S4.keep s47
    have X7 := X4.ext s47
    have hw7 := hw4.keep (Kv.of s47)
    have hdb7 := hdb4.keep (Kv.of s47)
    have hcp7 := s47 _ _ hcp4
    -- BadDen
    refine ⟨X7, fun H8 e8 X8 => ?_⟩
    have S8 := S7.extN e8
    have hw8 := hw7.keep (Kv.extN e8)
    have hdb8 := hdb7.keep (Kv.extN e8)
    have hcp8 := (Kv.extN (g := g) e8).tup _ _ hcp7
    refine ⟨_, rfl, _, rfl, g, vw, v, .non, wbD W, db, .non, rfl, hw8, hdb8, .non, (fun h => by rw [wb_ok okw] at h; cases h), (fun _ _ _ _ H9 s9 => ⟨true, E2.exm, fun _ b2 hb2 => ?_, fun z => nomatch z⟩), (fun W' _ _ h => by rw [hden] at h; cases h), fun W' den pr _ _ e h => by rw [e] at hden; exact absurd h (of_decide_eq_false hden)⟩
    generalize hHa : upd H9 b2 _ = Ha
    obtain ⟨sa, ea⟩ := freshF hb2 hHa
    refine ⟨b2, _, _, true, rfl, (fun u h => h), ea, kit_self, _, rfl, ifF rfl ?_⟩
    have s8a := s9.trans sa
    have Sa := S8.keep s8a
    have Xa := X8.ext s8a
    have hwa := hw8.keep (Kv.of s8a)
    have hcpa := s8a _ _ hcp8
    -- BadPrices
    have hlb := okw.lb
    have hpl4 : (pr.map V.int).length ≤ 4000 := by rw [List.length_map, hpl]; omega
    refine ⟨_, rfl, _, rfl, (by show 1 ≤ sizeLine; decide), fun t1 ht1 => ?_⟩
    generalize hHb : upd Ha t1 _ = Hb
    obtain ⟨st1, et1⟩ := freshF ht1 hHb
    refine catA_of (st1 _ _ hcpa) et1 (by rw [sizeLine_eq]; show (pr.map V.int).length + 1 ≤ _; omega) fun r1 Hc s1c er1 => ?_
    have sac := st1.trans s1c
    refine ⟨_, rfl, cp, _, rfl, .inr (SqT.of (sac _ _ hcpa)), fun l2 hl2 => ?_⟩
    generalize hHd : upd Hc l2 _ = Hd
    obtain ⟨sl2, el2⟩ := freshF hl2 hHd
    refine ⟨(by show 1 ≤ sizeLine; decide), fun z2 hz2 => ?_⟩
    generalize hHe : upd Hd z2 _ = He
    obtain ⟨sz2, ez2⟩ := freshF hz2 hHe
    refine ⟨l2, z2, _, _, rfl, rfl, sz2 _ _ el2, ez2, by rw [sizeLine_eq]; show (pr.map V.int).length + 1 ≤ _; omega, fun r2 hr2 => ?_⟩
    generalize hHf : upd He r2 _ = Hf
    obtain ⟨sr2, er2⟩ := freshF hr2 hHf
    have scf := sl2.trans (sz2.trans sr2)
    have saf := sac.trans scf
    have nr2 : r2 ≠ g := ((Sa.keep (sac.trans (sl2.trans sz2))).free hr2).2.1
    refine ⟨_, rfl, (by show 1 ≤ sizeLine; decide), fun t3 ht3 => ?_⟩
    generalize hHg : upd Hf t3 _ = Hg
    obtain ⟨st3, et3⟩ := freshF ht3 hHg
    refine catA_of (st3 _ _ (saf _ _ hcpa)) et3 (by rw [sizeLine_eq]; show (pr.map V.int).length + 1 ≤ _; omega) fun r3 Hh s3h er3 => ?_
    have sfh := st3.trans s3h
    have sah := saf.trans sfh
    refine ⟨_, rfl, cp, _, rfl, .inr (SqT.of (sah _ _ hcpa)), fun l4 hl4 => ?_⟩
    generalize hHi : upd Hh l4 _ = Hi
    obtain ⟨sl4, el4⟩ := freshF hl4 hHi
    refine ⟨(by show 1 ≤ sizeLine; decide), fun z4 hz4 => ?_⟩
    generalize hHj : upd Hi z4 _ = Hj
    obtain ⟨sz4, ez4⟩ := freshF hz4 hHj
    refine ⟨l4, z4, _, _, rfl, rfl, sz4 _ _ el4, ez4, by rw [sizeLine_eq]; show (pr.map V.int).length + 1 ≤ _; omega, fun r4 hr4 => ?_⟩
    generalize hHk : upd Hj r4 _ = Hk
    obtain ⟨sr4, er4⟩ := freshF hr4 hHk
    have shk := sl4.trans (sz4.trans sr4)
    have nr4 : r4 ≠ g := ((Sa.keep (sah.trans (sl4.trans sz4))).free hr4).2.1
    refine ⟨(by show 6 ≤ sizeLine; decide), fun q hq => ?_⟩
    generalize hHl : upd Hk q _ = Hl
    obtain ⟨sq, eq⟩ := freshF hq hHl
    have sal := sah.trans (shk.trans sq)
    have Sl := Sa.keep sal
    refine ⟨d, g, c, q, _, _, rfl, Sl, by omega, eq, ((Sa.keep (sah.trans shk)).free hq).2.1, by simp, (by show 6 ≤ 1000000; decide), fun u Hm hu Sm kpm => ?_⟩
    have kvm : Kv g Hl Hm := Kv.kp Sl kpm
    have Xm : Tabs (tbs T1) Hm := tabs_kp (Xa.ext sal) Sl kpm
    have hwm := (hwa.keep (Kv.of sal)).keep kvm
    have bad : ∃ dp, DV g Hm u dp ∧ priB W.lb.toNat dp = false := by
      have len : ∀ x : Dt, priB W.lb.toNat (.tup (pr.map Dt.int ++ [x])) = false := fun x => by
        show (decide ((pr.map Dt.int ++ [x]).length = W.lb.toNat) && _) = false
        rw [decide_eq_false (by rw [List.length_append, List.length_map, hpl]; show ¬ W.lb.toNat + 1 = _; omega)]
        rfl
      have app : ∀ {x : V} {y : Dt}, DV g Hl x y → DVs g Hl (pr.map V.int ++ [x]) (pr.map Dt.int ++ [y]) := fun h => (dvs_ints pr).app (.cons h .nil)
      have hl5 : ∀ x : Dt, (pr.map Dt.int ++ [x]).length ≤ 20000 := fun x => by
        rw [List.length_append, List.length_map, hpl]
        show W.lb.toNat + 1 ≤ 20000
        omega
      simp only [List.mem_cons, List.not_mem_nil, or_false] at hu
      rcases hu with rfl | rfl | rfl | rfl | rfl | rfl
      · exact ⟨_, (DV.tup (sq _ _ (shk _ _ (sfh _ _ (scf _ _ er1)))) (hl5 _) (app (.int 0))).keep kvm, len _⟩
      · exact ⟨_, (DV.lst (sq _ _ (shk _ _ (sfh _ _ er2))) nr2 (hl5 _) (app (.int 1))).keep kvm, rfl⟩
      · exact ⟨_, .non, rfl⟩
      · exact ⟨_, (DV.tup (sq _ _ (shk _ _ er3)) (hl5 _) (app (.bl true))).keep kvm, len _⟩
      · exact ⟨_, .int _, rfl⟩
      · exact ⟨_, (DV.lst (sq _ _ er4) nr4 (hl5 _) (app .non)).keep kvm, rfl⟩
    obtain ⟨dp, hdp, hpri⟩ := bad
    refine ⟨Xm, fun Hn en Xn => ?_⟩
    refine ⟨_, rfl, _, rfl, g, vw, .int 1, u, wbD W, .int 1, dp, rfl, hwm.keep (Kv.extN en), .int 1, hdp.keep (Kv.extN en), (fun h => by rw [wb_ok okw] at h; cases h), (fun _ _ _ h => by cases h), (fun W' e _ _ _ Ho so => ⟨true, E3.exm, fun _ b3 hb3 => ?_, fun z => nomatch z⟩), fun W' den pr' e _ _ _ e2 hl => ?_⟩
    · generalize hHp : upd Ho b3 _ = Hp'
      obtain ⟨sp, ep⟩ := freshF hb3 hHp
      exact ⟨b3, _, _, true, rfl, (fun u h => h), ep, kit_self, k Hp'⟩
    · obtain rfl := wb_inj e
      rw [e2] at hpri
      have : priB W.lb.toNat (.tup (pr'.map Dt.int)) = true := by
        show (decide ((pr'.map Dt.int).length = W.lb.toNat) && (pr'.map Dt.int).all isInt) = true
        rw [decide_eq_true (by rw [List.length_map]; exact hl), Bool.true_and]
        exact List.all_eq_true.mpr fun x hx => by
          obtain ⟨i, _, rfl⟩ := List.mem_map.mp hx
          rfl
      rw [this] at hpri
      cases hpri
end
end K67

set_option Elab.async false
set_option linter.all false
set_option pp.maxSteps 900
set_option maxRecDepth 100000
set_option maxHeartbeats 8000000
namespace K67
open PySem PySem.Spec PyProof.Rows L2
open LamX (GivesTo CodeO Tabs TabS TabB tLam pe_lamcall lamCx lamEnv lamS_by ExtN)
open TL (tl)
abbrev sLaw : Stmt := top 54
theorem int_inj' : ∀ (a b : Int), Dt.int a = Dt.int b → a = b := fun a b h => by injection h
/-- what is handed to heights -/
theorem he_pre {C1 C2 C3 g cp : Addr} {H : Hp} {vw : V} {W : Web} {den : Int} {pr : List Int} {Q : VK} {E : XK} (hw : DV g H vw (wbD W)) (okw : OkW W) (h1 : 1 ≤ den) (h2 : den < 2 ^ 64) (hp : H cp = some (.tup (pr.map V.int))) (hl : pr.length = W.lb.toNat)
    (k : ∀ v H', Same H H' → (∀ g', DV g' H' v (duD W den pr)) → BdH W → Q v H') : spHe C1 C2 C3 [vw, .int den, .ref cp] H Q E := by
  have hlb := okw.lb
  refine ⟨g, vw, .int den, .ref cp, wbD W, .int den, .tup (pr.map Dt.int), rfl, hw, .int den, .tup hp (by rw [List.length_map]; omega) (dvs_ints pr), (fun h => by rw [wb_ok okw] at h; cases h), (fun W' _ _ h => by rw [show denB (.int den) = decide (1 ≤ den) from rfl, decide_eq_true h1] at h; cases h), (fun W' e _ _ h => ?_), fun W' den' pr' e1 _ e2 _ e3 _ => ?_⟩
  · obtain rfl := wb_inj e
    have : priB W.lb.toNat (.tup (pr.map Dt.int)) = true := by
      show (decide ((pr.map Dt.int).length = W.lb.toNat) && (pr.map Dt.int).all isInt) = true
      rw [decide_eq_true (by rw [List.length_map]; exact hl), Bool.true_and]
      exact List.all_eq_true.mpr fun x hx => by
        obtain ⟨i, _, rfl⟩ := List.mem_map.mp hx
        rfl
    rw [this] at h
    cases h
  · obtain rfl := wb_inj e1
    obtain rfl := int_inj' _ _ e2
    injection e3 with e3
    obtain rfl := map_inj' int_inj' e3
    exact ⟨h2, k⟩
theorem cst_b {W : Web} (o : OkW W) {den : Int} {pr : List Int} (hd : 0 ≤ den ∧ den ≤ 100) (hp : ∀ p ∈ pr, -10000 ≤ p ∧ p ≤ 10000) : ∀ (a : Nat) (nt : Int × List Ed) (e : Ed), W.ns[a]? = some nt → e ∈ nt.2 → -(2 ^ 50) ≤ cst den pr e ∧ cst den pr e ≤ 2 ^ 50 := by
  intro a nt e hn he
  have oe := o.ed nt (List.mem_of_getElem? hn) e he
  have hs : ∀ l : List Int, -(10000 * (l.length : Int)) ≤ (l.map fun k => pr.getD k.toNat 0).sum ∧ (l.map fun k => pr.getD k.toNat 0).sum ≤ 10000 * (l.length : Int) := by
    intro l
    induction l with
    | nil => show -(10000 * (0 : Int)) ≤ 0 ∧ (0 : Int) ≤ 10000 * 0; decide
    | cons x l ih =>
      have hx : -10000 ≤ pr.getD x.toNat 0 ∧ pr.getD x.toNat 0 ≤ 10000 := by
        rw [List.getD_eq_getElem?_getD]
        cases h2 : pr[x.toNat]? with
        | none => decide
        | some y => exact hp y (List.mem_of_getElem? h2)
      rw [List.map_cons, List.sum_cons, List.length_cons]
      omega
  have h1 := hs e.l
  have h8 := oe.l
  have hb := oe.b
  have m1 : den * e.b ≤ 100 * 1000000000 := by
    have a1 := Int.mul_le_mul_of_nonneg_left hb.2 hd.1
    omega
  have m2 : -(100 * 1000000000) ≤ den * e.b := by
    have a1 := Int.mul_le_mul_of_nonneg_left hb.1 hd.1
    omega
  have h50 : (2 : Int) ^ 50 = 1125899906842624 := by decide
  unfold cst
  rw [h50]
  omega
/-- the table of what is due can be shown -/
theorem du_show {W : Web} {den : Int} {pr : List Int} (d : DrX W) (hp : pr.length = W.lb.toNat) (hd : 0 ≤ den ∧ den ≤ 100) (hb : ∀ p ∈ pr, -10000 ≤ p ∧ p ≤ 10000) (B : BdH W) : (toPy (duD W den pr)).showable = true ∧ (toPy (duD W den pr)).hasDict = false ∧ (toPy (duD W den pr)).depth ≤ 64 ∧ (toPy (duD W den pr)).shown.length ≤ sizeLine := by
  obtain ⟨⟨h1, h2, h3⟩, h4⟩ := duD_show d hp fun h P => small_of d B P (cst_b d.ok hd hb)
  refine ⟨h1, h2, ?_, Nat.le_trans h3 (by rw [sizeLine_eq]; decide)⟩
  rw [(pur_lay (duD_pur W den pr)).2]
  omega
section
variable {P : Program} {w : World} {K : PySem.W.Frag} {mg : Str → Option Value} {base : Heap}
theorem scLaw : FnScope ["script", "state", "many", "web", "prices", "times", "lap", "other", "den", "wrong", "way", "at", "price", "name"] ["script"] (defScope sLaw) := ⟨rfl, rfl, rfl, by decide +kernel, rfl, by decide +kernel, by decide +kernel⟩
theorem law_run {fa T1 C1 C2 C3 a : Addr} {oc kV doc pm cdv ct : Value} {od an : Option Addr} {sl : Array (Option Value)} {ns : List Int} {s : Shared} {H : Hp} {fHe : Addr} {fdHe : FuncData}
    (lk : K.lookup fa = some ⟨oc, od, .func (PySem.W.fnOf "law" "law" (defArgs sLaw) (defBody sLaw) (defScope sLaw) .none kV doc pm an cdv ct), sl⟩) (hcd : PySem.W.codeIn K cdv "law" = true)
    (B : Bn mg) (hrepr : mg "repr" = none)
    (cBeg : Cl P w K mg base "_law_begun" ["script"] 1 (spBeg K)) (cP : Cl P w K mg base "_law_pick" ["state", "some"] 3 spPck) (cD : Cl P w K mg base "_law_draw" ["state", "room"] 2 spDrw) (cWW : Cl P w K mg base "_law_wb_web" ["state", "low"] 6 spWW)
    (cPl : Cl P w K mg base "_law_wb_planted" ["state", "web", "many"] 4 spPl) (cCg : Cl P w K mg base "_law_wb_changed" ["state", "web"] 4 spCg) (cDu : Cl P w K mg base "_law_due" ["web", "den", "prices"] 3 spDu)
    (GHe : FnOk P w K mg base (L2.CX P w) 6 fHe fdHe ["web", "den", "prices"] (spHe C1 C2 C3)) (mHe : mg "heights" = some (.ref fHe)) (kHe : PySem.W.keepIn K (.ref fHe) = true) (bHe : L2.Binds K fdHe ["web", "den", "prices"] [])
    (cRf : Cl P w K mg base "_law_refused" ["state", "web", "prices"] 9 (spRf T1))
    (e0 : Env0 P w K mg base callerA [] s H) (hT1 : H T1 = some (.tbl #[])) (hS : SqL K H a (ns.map V.int)) (hlen : ns.length ≤ 63) :
    codeAny (model P w) callerA (.call (.ref fa) ⟨[.ref a], []⟩) (CR CX0 [] P w H s (fun v _ => v = .bl true) fun _ _ _ => False) s := by
  obtain ⟨fBeg, fdBeg, GBeg, mBeg, kBeg, bBeg⟩ := cBeg
  obtain ⟨fP, fdP, GP, mP, kP, bP⟩ := cP
  obtain ⟨fD, fdD, GD_, mD, kD, bD⟩ := cD
  obtain ⟨fWW, fdWW, GWW, mWW, kWW, bWW⟩ := cWW
  obtain ⟨fPl, fdPl, GPl, mPl, kPl, bPl⟩ := cPl
  obtain ⟨fCg, fdCg, GCg, mCg, kCg, bCg⟩ := cCg
  obtain ⟨fDu, fdDu, GDu, mDu, kDu, bDu⟩ := cDu
  obtain ⟨fRf, fdRf, GRf, mRf, kRf, bRf⟩ := cRf
  refine GD.run_law (k := 10) (N := ["script", "state", "many", "web", "prices", "times", "lap", "other", "den", "wrong", "way", "at", "price", "name"]) (ps := ["script"]) (us := [.ref a]) (vs := [.ref a]) lk hcd scLaw ⟨rfl, by decide, by decide⟩ e0 (.of_eq rfl) (.cons rfl .nil) rfl fun hr => ?_
  have hg : (callerA.deeper (envOfC "law" (defScope sLaw) s.heap.objs.size fa cdv)).guards = some [] := rfl
  have hu66 : (callerA.deeper (envOfC "law" (defScope sLaw) s.heap.objs.size fa cdv)).units + 66 < cLine := by have := hr.un; omega
  have hu := hu_of hr
  have hr1 : Room 1 _ := hr.mono (by decide)
  have hr2' : Room 2 _ := hr.mono (by decide)
  have hr3 : Room 3 _ := hr.mono (by decide)
  have hr4 : Room 4 _ := hr.mono (by decide)
  have hr6 : Room 6 _ := hr.mono (by decide)
  have hr9 : Room 9 _ := hr.mono (by decide)
  refine ⟨_, PSs.nox (pss_cons (ps_set (i := 1) scLaw.nd rfl (Or.inr rfl) (pe_call GBeg hr1 (by rfl) mBeg kBeg bBeg .nil pass0 (pa_cons (pv 0) pa_nil)))
      (pss_cons (ps_set (i := 2) scLaw.nd rfl (Or.inl rfl) (pe_call GP hr3 (by rfl) mP kP bP .nil pass0 (pa_cons (pv 1) (pa_cons (pe_lst (pa_cons pe_int (pa_cons pe_int (pa_cons pe_int pa_nil)))) pa_nil))))
      (pss_cons (ps_asg (pe_call GPl hr4 (by rfl) mPl kPl bPl .nil pass0 (pa_cons (pv 1) (pa_cons (pe_call GWW hr6 (by rfl) mWW kWW bWW .nil pass0 (pa_cons (pv 1) (pa_cons pe_bl pa_nil))) (pa_cons (pv 2) pa_nil)))) (pg_tup (by rfl) (pgs_cons (pg_name (i := 3) scLaw.nd rfl (Or.inl rfl)) (pgs_cons (pg_name (i := 4) scLaw.nd rfl (Or.inl rfl)) pgs_nil))))
      (pss_cons (ps_if (PW.pt (pw_or (pt_cmpR op_ne (pe_callB (GD.call_reprD hg hu66) (by rfl) hrepr (by decide +kernel) (pa_cons (pe_call GHe hr6 (by rfl) mHe kHe bHe .nil passL (pa_cons (pv 3) (pa_cons (pv 2) (pa_cons (pv 4) pa_nil)))) pa_nil)) (pe_callB (GD.call_reprD hg hu66) (by rfl) hrepr (by decide +kernel) (pa_cons (pe_call GDu hr3 (by rfl) mDu kDu bDu .nil pass0 (pa_cons (pv 3) (pa_cons (pv 2) (pa_cons (pv 4) pa_nil)))) pa_nil)) (nomark _)) (pw_or1 (pt_cmpR op_isN (pe_call GHe hr6 (by rfl) mHe kHe bHe .nil passL (pa_cons (pv 3) (pa_cons (pv 2) (pa_cons (pv 4) pa_nil)))) pe_non (nomark _))))) (pss_one (ps_ret pe_bl)) pss_nil)
      (pss_cons (ps_set (i := 5) scLaw.nd rfl (Or.inr rfl) (pe_op op_add pe_int (pe_call GD_ hr2' (by rfl) mD kD bD .nil pass0 (pa_cons (pv 1) (pa_cons pe_int pa_nil)))))
      (pss_cons (ps_if (pt_cmpR op_isN (pe_call GHe hr6 (by rfl) mHe kHe bHe .nil passL (pa_cons (pv 3) (pa_cons (pe_op op_mul (pv 2) (pv 5)) (pa_cons (pe_callTy call_tuple_of (by rfl) B.tpl (by decide +kernel) (pa_cons (pe_lc (own := [("price", 12)]) (g := gName 12) (tt := tYes) (by rfl) scLaw.nd (pi_tup (pv 4)) (blkOk_by (own := [("price", 12)]) (N := ["script", "state", "many", "web", "prices", "times", "lap", "other", "den", "wrong", "way", "at", "price", "name"]) (sc := defScope sLaw) (by decide +kernel)) (fun _ _ _ _ _ => (pg_name (i := 12) scLaw.nd rfl (Or.inl rfl))) (fun _ _ _ _ _ => pts_nil) (fun _ _ _ _ _ => (pe_op op_mul (pv 12) (pv 5)))) pa_nil)) pa_nil)))) pe_non (nomark _)) (pss_one (ps_ret pe_bl)) pss_nil)
      (pss_cons (ps_for PassesOwn.never rfl (pi_range1 (by rfl) B.rng (pa_cons pe_int pa_nil)) (pg_name (i := 6) scLaw.nd rfl (Or.inl rfl))
          (pss_cons (ps_par3 (i := 7) (j := 8) (l := 9) (by rfl) scLaw.nd rfl rfl rfl (by decide) (by decide) (by decide) rfl rfl rfl (pa_cons (pv 3) (pa_cons (pv 2) (pa_cons (pe_callTy call_list_of (by rfl) B.lst (by decide +kernel) (pa_cons (pv 4) pa_nil)) pa_nil))) (by rfl))
          (pss_cons (ps_set (i := 10) scLaw.nd rfl (Or.inl rfl) (pe_call GD_ hr2' (by rfl) mD kD bD .nil pass0 (pa_cons (pv 1) (pa_cons pe_int pa_nil))))
          (pss_mid (ps_if (pt_cmpR op_eq (pv 10) pe_int (nomark _)) (pss_one (ps_set (i := 7) scLaw.nd rfl (Or.inl rfl) (pe_call GCg hr4 (by rfl) mCg kCg bCg .nil pass0 (pa_cons (pv 1) (pa_cons (pv 3) pa_nil))))) (pss_one (ps_if (PW.pt (pw_and (pt_cmpR op_eq (pv 10) pe_int (nomark _)) (pw_and1 (pt_cmpR (op_neNil hr.units) (pv 9) (pe_lst pa_nil) (nomark _))))) (pss_cons (ps_set (i := 11) scLaw.nd rfl (Or.inl rfl) (pe_call GD_ hr2' (by rfl) mD kD bD .nil pass0 (pa_cons (pv 1) (pa_cons (pe_callB call_len_seq (by rfl) B.len PySem.boot_len (pa_cons (pv 9) pa_nil)) pa_nil))))
                  (pss_one (ps_asg (pe_op op_add (pe_ix ix_list (pv 9) (pv 11) (fun _ _ => rfl)) (pe_call GP hr3 (by rfl) mP kP bP .nil pass0 (pa_cons (pv 1) (pa_cons (pe_lst (pa_cons pe_int (pa_cons (pe_un un_neg pe_int) (pa_cons pe_int (pa_cons pe_int pa_nil))))) pa_nil)))) (pg_sub (pv 9) (pv 11) set_list)))) (pss_one (ps_if (pt_cmpR op_eq (pv 10) pe_int (nomark _)) (pss_one (ps_set (i := 8) scLaw.nd rfl (Or.inl rfl) (pe_op op_add (pv 8) (pe_call GP hr3 (by rfl) mP kP bP .nil pass0 (pa_cons (pv 1) (pa_cons (pe_lst (pa_cons pe_int (pa_cons pe_int (pa_cons pe_int pa_nil)))) pa_nil)))))) (pss_cons (ps_par (i := 7) (j := 9) (by rfl) scLaw.nd rfl rfl (by decide) rfl rfl (pa_cons (pe_call GWW hr6 (by rfl) mWW kWW bWW .nil pass0 (pa_cons (pv 1) (pa_cons pe_bl pa_nil))) (pa_cons (pe_lc (own := [("name", 13)]) (g := gName 13) (tt := tYes) (by rfl) scLaw.nd (pi_range1 (by rfl) B.rng (pa_cons pe_int pa_nil)) (blkOk_by (own := [("name", 13)]) (N := ["script", "state", "many", "web", "prices", "times", "lap", "other", "den", "wrong", "way", "at", "price", "name"]) (sc := defScope sLaw) (by decide +kernel)) (fun _ _ _ _ _ => (pg_name (i := 13) scLaw.nd rfl (Or.inl rfl))) (fun _ _ _ _ _ => pts_nil) (fun _ _ _ _ _ => (pe_call GD_ hr2' (by rfl) mD kD bD .nil pass0 (pa_cons (pv 1) (pa_cons pe_int pa_nil))))) pa_nil)) (by rfl))
                      (pss_one (ps_set (i := 9) scLaw.nd rfl (Or.inl rfl) (pe_slice sl_list (pv 9) po_none (po_some (pe_ix ix_tup (pv 7) pe_int (fun _ _ => rfl))))))))))))
          (pss_one (ps_if (pt_cmpR op_ne (pe_callB (GD.call_reprD hg hu66) (by rfl) hrepr (by decide +kernel) (pa_cons (pe_call GHe hr6 (by rfl) mHe kHe bHe .nil passL (pa_cons (pv 7) (pa_cons (pv 8) (pa_cons (pe_callTy call_tuple_of (by rfl) B.tpl (by decide +kernel) (pa_cons (pv 9) pa_nil)) pa_nil)))) pa_nil)) (pe_callB (GD.call_reprD hg hu66) (by rfl) hrepr (by decide +kernel) (pa_cons (pe_call GDu hr3 (by rfl) mDu kDu bDu .nil pass0 (pa_cons (pv 7) (pa_cons (pv 8) (pa_cons (pv 9) pa_nil)))) pa_nil)) (nomark _)) (pss_one (ps_ret pe_bl)) pss_nil))))))
      (pss_one (ps_ret (pe_call GRf hr9 (by rfl) mRf kRf bRf .nil pass0 (pa_cons (pv 1) (pa_cons (pv 3) (pa_cons (pv 4) pa_nil))))))))))))), ?_⟩
  refine ⟨_, rfl, a, ns, rfl, hS, hlen, fun d g c H1 S1 sm1 hd hg0 => ?_⟩
  have X1 : Tabs (tbs T1) H1 := fun p hp => by
    rw [List.mem_singleton.mp hp]
    exact TabS.nil (sm1 _ _ hT1)
  refine ⟨_, rfl, (by show 3 ≤ sizeLine; decide), fun q hq => ?_⟩
  generalize hH2 : upd H1 q _ = H2
  obtain ⟨sq, eq⟩ := freshF hq hH2
  have S2 := S1.keep sq
  refine ⟨d, g, c, q, 0, _, rfl, S2, by omega, eq, (S1.free hq).2.1, by simp, (by show 3 ≤ 1000000; decide), fun v H3 hv S3 kp3 => ?_⟩
  obtain ⟨many, rfl, hm12⟩ : ∃ m : Int, v = .int m ∧ (m = 1 ∨ m = 2) := by
    simp only [List.mem_cons, List.not_mem_nil, or_false] at hv
    rcases hv with rfl | rfl | rfl
    · exact ⟨1, rfl, .inl rfl⟩
    · exact ⟨2, rfl, .inr rfl⟩
    · exact ⟨1, rfl, .inl rfl⟩
  have X3 := tabs_kp (X1.ext sq) S2 kp3
  -- the planted web
  refine ⟨_, rfl, _, rfl, d, g, c, _, false, rfl, S3, by omega, fun vw0 W0 H4 hW0 S4 kp4 hvw0 => ?_⟩
  have X4 := tabs_kp X3 S3 kp4
  refine ⟨_, rfl, d, g, c, _, vw0, W0, many, rfl, S4, by omega, hvw0 g, hW0, hm12, fun t cp vw Ks L H5 et hvw hcp PI S5 kp5 => ?_⟩
  have X5 := tabs_kp X4 S4 kp5
  have hWx := pl_drx hW0 PI hm12
  have hWb := pl_beats (many := many) hW0 PI
  have hPot := pl_pot (W := W0) (many := many) PI (by omega)
  have hKl : Ks.length = (plW Ks L many W0).lb.toNat := PI.kl
  have hKb : ∀ p ∈ Ks, -10000 ≤ p ∧ p ≤ 10000 := fun p hp => by have := PI.kb p hp; omega
  have hK1 := PI.kb
  generalize plW Ks L many W0 = W at hvw hWx hWb hPot hKl
  have okw := hWx.ok
  have hlb := okw.lb
  clear PI hvw0 hW0 X4 X3 kp4 kp3
  refine ⟨t, _, rfl, SqT.of et, (by rfl), _, _, rfl, _, _, rfl, rfl, ?_⟩
  have hdu := duD_of okw hKl hPot
  have m1 : 1 ≤ many ∧ many ≤ 2 := by omega
  -- repr(heights) != repr(due)
  refine ⟨_, rfl, _, rfl, _, rfl, he_pre (hvw g) okw m1.1 (by omega) hcp hKl fun v1 H6 s6 hv1 bd => ?_⟩
  obtain ⟨sh1, sh2, sh3, sh4⟩ := du_show hWx hKl (den := many) (by omega) hKb bd
  have hpu := duD_pur W many Ks
  refine ⟨v1, _, rfl, dv_dp hpu (hv1 g), sh1, sh2, sh3, sh4, ?_⟩
  refine ⟨_, rfl, _, rfl, _, rfl, g, cp, vw, W, many, Ks, rfl, (hvw g).keep (Kv.of s6), okw, hWx.e, .inl (s6 _ _ hcp), (fun p hp => by have := hKb p hp; omega), hKl, by omega, by omega, fun v2 H7 s7 hv2 => ?_⟩
  refine ⟨v2, _, rfl, dv_dp hpu (hv2 g), sh1, sh2, sh3, sh4, ?_⟩
  have s57 := s6.trans s7
  refine ⟨rfl, _, rfl, ifF (by rw [decide_eq_true rfl]; rfl) ?_⟩
  refine ⟨_, rfl, _, rfl, _, rfl, he_pre ((hvw g).keep (Kv.of s57)) okw m1.1 (by omega) (s57 _ _ hcp) hKl fun v3 H8 s8 hv3 _ => ?_⟩
  obtain ⟨a3, xs3, rfl, _⟩ : ∃ a3 xs3, v3 = .ref a3 ∧ H8 a3 = some (.tup xs3) := by
    have h3 := hv3 g
    rw [hdu] at h3
    obtain ⟨a3, xs3, h1, h2, _⟩ := h3.tup_inv
    exact ⟨a3, xs3, h1, h2⟩
  refine ⟨rfl, _, rfl, ifF rfl ?_⟩
  have s58 := s57.trans s8
  -- times
  have S8 := S5.keep s58
  refine ⟨_, rfl, d, g, c, _, 4, rfl, S8, by omega, by decide, by decide, fun u H9 u0 u1 S9 kp9 => ?_⟩
  refine ⟨_, _, rfl, rfl, ?_⟩
  have htm5 : 1 ≤ (1 + u) ∧ (1 + u) ≤ 4 := by omega
  have k59 : Kp d g H5 H9 := (Kp.of s58).trans kp9
  have kv59 : Kv g H5 H9 := Kv.kp S5 k59
  have hvw9 : ∀ g', DV g' H9 vw (wbD W) := fun g' => DV.keepP kv59.tup (wb_pur W) (hvw g)
  have hcp9 := kv59.tup _ _ hcp
  have X9 : Tabs (tbs T1) H9 := tabs_kp (X5.ext s58) S8 kp9
  refine ⟨_, rfl, _, rfl, _, rfl, _, _, rfl, rfl, .inl (by omega), ?_⟩
  refine ⟨_, rfl, cp, rfl, ⟨_, SqT.of hcp9⟩, fun D hD => ?_⟩
  refine lc_it (walk_tup (K := K) (a := cp) (xs := Ks.map V.int)) (fun i H' => H' D = some (.lst (((Ks.take i).map fun p => p * (1 + u)).map V.int)) ∧ Same H9 H') ⟨upd_same, same_new hD⟩ (fun _ _ _ h => SqT.of (h.2 _ _ hcp9)) ?_ ?_
  · rintro i x Haz Ha hi ⟨ea, sa⟩ ⟨rfl, hx⟩
    have hx : (Ks.map V.int)[i]? = some x := hx
    rw [List.getElem?_map] at hx
    obtain ⟨p, hp, rfl⟩ := Option.map_eq_some_iff.mp hx
    have hpb := hKb p (List.mem_of_getElem? hp)
    refine ⟨(by rfl), ?_⟩
    refine ⟨_, rfl, _, rfl, _, _, rfl, rfl, .inl (by omega), _, ea, ?_, ?_, fun b o eb => ?_⟩
    · have := (List.getElem?_eq_some_iff.mp hp).1
      rw [List.length_map, List.length_map, List.length_take, sizeLine_eq]
      omega
    · rw [upd_same, List.take_succ, hp, List.map_append, List.map_append]
      rfl
    · rw [upd_ne (ne_of_none eb hD)]
      exact sa _ _ eb
  rintro Ha ⟨ea, sa⟩
  rw [List.length_map, List.take_length] at ea
  refine ⟨D, _, rfl, .inl ⟨SqL.of ea, fun tt htt => ?_⟩⟩
  generalize hHb : upd Ha tt _ = Hb
  obtain ⟨stt, ett⟩ := freshF htt hHb
  have s9b := sa.trans stt
  have hl2 : (Ks.map fun p => p * (1 + u)).length = W.lb.toNat := by rw [List.length_map]; exact hKl
  have hpot2 := hPot.scale (t := (1 + u))
  have hdu2 := duD_of okw hl2 hpot2
  have mt : 1 ≤ many * (1 + u) ∧ many * (1 + u) ≤ 8 := by
    rcases hm12 with rfl | rfl <;> omega
  refine he_pre ((hvw9 g).keep (Kv.of s9b)) okw mt.1 (by omega) ett hl2 fun v4 Hc sc hv4 _ => ?_
  obtain ⟨a4, xs4, rfl, _⟩ : ∃ a4 xs4, v4 = .ref a4 ∧ Hc a4 = some (.tup xs4) := by
    have h4 := hv4 g
    rw [hdu2] at h4
    obtain ⟨a4, xs4, h1, h2, _⟩ := h4.tup_inv
    exact ⟨a4, xs4, h1, h2⟩
  refine ⟨rfl, _, rfl, ifF rfl ?_⟩
  have s9c := s9b.trans sc
  have Sc := S9.keep s9c
  have Xc := X9.ext s9c
  have hvwc : ∀ g', DV g' Hc vw (wbD W) := fun g' => (hvw9 g').keep (Kv.of s9c)
  have hcpc := s9c _ _ hcp9
  clear hT1 hv1 hv2 hv3 hv4 X9 X5 hvw9 hcp9 S8 hpot2 hdu2
  refine ⟨3, rfl, by decide, by decide, ?_⟩
  refine for_it (walk_range (lo := 0) (n := (3 : Int).toNat)) (fun i σ H' => ∃ (v6 v7 v8 v9 v10 v11 : Option V), σ = [some (.ref a), some (.ref d), some (.int many), some vw, some (.ref cp), some (.int (1 + u)), v6, v7, v8, v9, v10, v11, none, none] ∧ StA H' d g c (2000 + 1100 * i) ∧ (∀ g', DV g' H' vw (wbD W)) ∧ H' cp = some (.tup (Ks.map V.int)) ∧ Tabs (tbs T1) H')
    ⟨_, _, _, _, _, _, rfl, Sc.mono (by omega), hvwc, hcpc, Xc⟩ (fun _ _ _ _ _ => trivial) ?_ ?_
  · rintro i x σ Hdz Hd hi ⟨v6, v7, v8, v9, v10, v11, rfl, Sd, hvwd, hcpd, Xd⟩ ⟨rfl, rfl⟩
    have hi : i < 3 := hi
    refine ⟨_, rfl, _, rfl, _, rfl, cp, _, rfl, .inr (SqT.of hcpd), fun wl hwl => ?_⟩
    generalize hHe : upd Hd wl _ = He
    obtain ⟨swl, ewl⟩ := freshF hwl hHe
    refine ⟨_, _, _, rfl, ?_⟩
    have Se := Sd.keep swl
    refine ⟨_, rfl, d, g, c, _, 4, rfl, Se, by omega, by decide, by decide, fun y Hf y0 y1 Sf kpf => ?_⟩
    have fw := Sd.free hwl
    have ewf := kpf _ _ ewl fw.1 fw.2.1
    have kdf : Kp d g Hd Hf := (Kp.of swl).trans kpf
    have hvwf : ∀ g', DV g' Hf vw (wbD W) := fun g' => DV.keepP (Kv.kp (g := g) Sd kdf).tup (wb_pur W) (hvwd g)
    refine ⟨fun σ H' => ∃ (vo : V) (Wo : Web) (dn : Int) (wz : Addr) (pr : List Int) (w11 : Option V), σ = [some (.ref a), some (.ref d), some (.int many), some vw, some (.ref cp), some (.int (1 + u)), some (.int (0 + (i : Nat))), some vo, some (.int dn), some (.ref wz), some (.int y), w11, none, none] ∧ DrX Wo ∧ (∀ g', DV g' H' vo (wbD Wo)) ∧ 1 ≤ dn ∧ dn ≤ 100 ∧ H' wz = some (.lst (pr.map V.int)) ∧ pr.length = Wo.lb.toNat ∧ (∀ p ∈ pr, -10000 ≤ p ∧ p ≤ 10000) ∧ StA H' d g c (2000 + 1100 * i + 1050) ∧ Kp d g Hd H', ?_, ?_⟩
    · refine ⟨_, rfl, rfl, _, rfl, ?_⟩
      by_cases h0 : y = 0
      · refine ifT (by rw [h0]; rfl) ⟨_, rfl, _, rfl, d, g, c, _, vw, W, rfl, Sf, by omega, hvwf g, hWx, hWb, fun vo Wo Hg hWo hlo hvo Sg kpg => ?_⟩
        exact ⟨vo, Wo, many, wl, Ks, _, rfl, hWo, hvo, by omega, by omega, kpg _ _ ewf fw.1 fw.2.1, by rw [hKl, hlo], hKb, Sg.mono (by omega), kdf.trans kpg⟩
      refine ifF (decide_eq_false fun z => h0 (V.int.inj z)) ⟨_, rfl, rfl, _, rfl, ?_⟩
      by_cases h1 : y = 1
      · refine ifT (by rw [h1]; rfl) ⟨_, rfl, Nat.zero_le _, fun e0 he0 => ?_⟩
        generalize hHg : upd Hf e0 _ = Hg
        obtain ⟨se0, ee0⟩ := freshF he0 hHg
        have Sg := Sf.keep se0
        have ewg := se0 _ _ ewf
        have kdg : Kp d g Hd Hg := kdf.trans (Kp.of se0)
        refine ⟨wl, e0, _, rfl, rfl, SqL.of ewg, SqL.of ee0, _, rfl, ?_⟩
        by_cases hK0 : Ks = []
        · refine ifF (by rw [hK0]; rfl) ⟨_, rfl, rfl, _, rfl, ifF (by rw [h1]; rfl) ?_⟩
          refine ⟨_, rfl, d, g, c, _, true, rfl, Sg, by omega, fun vo Wo Hh hWo Sh kph hvo => ?_⟩
          refine ⟨9, rfl, by decide, by decide, fun D hD => ?_⟩
          have fD' := Sh.free hD
          refine lc_it (walk_range (lo := 0) (n := (9 : Int).toNat)) (fun m H' => ∃ ks : List Int, H' D = some (.lst (ks.map V.int)) ∧ ks.length = m ∧ (∀ x ∈ ks, 0 ≤ x ∧ x < 5) ∧ StA H' d g c (2000 + 1100 * i + 1 + 1000 + m) ∧ Kp d g Hh H')
            ⟨[], upd_same, rfl, (fun x hx => by cases hx), Sh.keep (same_new hD), Kp.of (same_new hD)⟩ (fun _ _ _ _ => trivial) ?_ ?_
          · rintro m x Hjz Hj hm ⟨ks, ej, hkl, hks, Sj, kpj⟩ ⟨rfl, rfl⟩
            have hm9 : m < 9 := hm
            refine ⟨rfl, ?_⟩
            refine ⟨_, rfl, d, g, c, _, 5, rfl, Sj, by omega, by decide, by decide, fun u Hk w0 w1 Sk kpk => ?_⟩
            have ek := kpk _ _ ej fD'.1 fD'.2.1
            refine ⟨_, ek, by rw [List.length_map, hkl, sizeLine_eq]; omega, ks ++ [u], by rw [upd_same, List.map_append]; rfl, by rw [List.length_append, hkl]; rfl, ?_, (Sk.upF fD'.1 fD'.2.1 fD'.2.2).mono (by omega), (kpj.trans kpk).upF hD⟩
            intro x hx
            rcases List.mem_append.mp hx with hx | hx
            · exact hks x hx
            · rw [List.mem_singleton.mp hx]
              exact ⟨w0, w1⟩
          rintro Hj ⟨ks, ej, hkl, hks, Sj, kpj⟩
          have hkl : ks.length = 9 := hkl
          have hvoj : ∀ g', DV g' Hj vo (wbD Wo) := fun g' => DV.keepP (Kv.kp (g := g) Sh kpj).tup (wb_pur Wo) (hvo g)
          obtain ⟨bo, co, xo, rfl, ebo, eco, _⟩ := wb_at (hvoj g)
          have hlo := hWo.ok.lb
          have hlo5 := hWo.lb
          refine ⟨_, _, rfl, _, rfl, ?_⟩
          unfold tNoPart
          refine ⟨_, rfl, bo, _, 0, _, rfl, rfl, SqT.of ebo, atI_nat (j := 0) rfl, _, rfl, D, _, rfl, SqL.of ej, fun l hl => ?_⟩
          have hcut : cutV (ks.map V.int) none (some Wo.lb) = (ks.take Wo.lb.toNat).map V.int := by
            unfold cutV
            have e : Wo.lb = ((Wo.lb.toNat : Nat) : Int) := (Int.toNat_of_nonneg hlo.1).symm
            rw [HT.sIx_none, e, HT.sIx_nat, List.length_map, hkl, List.drop_zero, List.map_take, Int.toNat_natCast]
            congr 1
            omega
          rw [hcut]
          generalize hHl : upd Hj l _ = Hl
          obtain ⟨sl, el⟩ := freshF hl hHl
          exact ⟨_, Wo, many, l, ks.take Wo.lb.toNat, _, rfl, hWo.x, (fun g' => (hvoj g').keep (Kv.of sl)), by omega, by omega, el, by rw [List.length_take]; omega, (fun p hp => by have := hks p (List.mem_of_mem_take hp); omega), (Sj.keep sl).mono (by omega), kdg.trans (kph.trans (kpj.trans (Kp.of sl)))⟩
        refine ifT (by cases Ks with | nil => exact absurd rfl hK0 | cons a b => rfl) ?_
        have hpos : 0 < Ks.length := List.length_pos_iff.mpr hK0
        have hK5 : Ks.length ≤ 5 := by have := hWx.lb; omega
        refine ⟨_, rfl, _, rfl, wl, _, rfl, .inl (SqL.of ewg), d, g, c, _, ((Ks.map V.int).length : Nat), rfl, Sg, by omega, by rw [List.length_map]; omega, by rw [List.length_map]; omega, fun z Hh z0 z1 Sh kph => ?_⟩
        rw [List.length_map] at z1
        obtain ⟨j, rfl⟩ := Int.eq_ofNat_of_zero_le z0
        have hj : j < Ks.length := by omega
        have hjk : Ks[j]? = some (Ks[j]'hj) := List.getElem?_eq_getElem hj
        generalize Ks[j]'hj = kj at hjk
        have ewh := kph _ _ ewg fw.1 fw.2.1
        refine ⟨_, rfl, _, rfl, wl, _, (j : Nat), .int kj, rfl, rfl, SqL.of ewh, atI_nat (by rw [List.getElem?_map, hjk] <;> rfl), ?_⟩
        refine ⟨_, rfl, 1, rfl, (by show 4 ≤ sizeLine; decide), fun q hq => ?_⟩
        generalize hHi : upd Hh q _ = Hi
        obtain ⟨sq, eq⟩ := freshF hq hHi
        refine ⟨d, g, c, q, _, _, rfl, Sh.keep sq, by omega, eq, (Sh.free hq).2.1, by simp, (by show 4 ≤ 1000000; decide), fun v Hj hv Sj kpj => ?_⟩
        obtain ⟨x, rfl, hx⟩ : ∃ x : Int, v = .int x ∧ -100 ≤ x ∧ x ≤ 100 := by
          simp only [List.mem_cons, List.not_mem_nil, or_false] at hv
          rcases hv with rfl | rfl | rfl | rfl
          · exact ⟨1, rfl, by decide⟩
          · exact ⟨-1, rfl, by decide⟩
          · exact ⟨2, rfl, by decide⟩
          · exact ⟨100, rfl, by decide⟩
        have khj : Kp d g Hh Hj := (Kp.of sq).trans kpj
        have ewj := khj _ _ ewh fw.1 fw.2.1
        have kdj : Kp d g Hd Hj := kdg.trans (kph.trans khj)
        refine ⟨_, _, rfl, rfl, _, rfl, _, rfl, wl, _, (j : Nat), j, rfl, rfl, ewj, ixN_at (by rw [List.length_map]; exact hj), ?_⟩
        have hset : (Ks.map V.int).set j (.int (kj + x)) = (Ks.set j (kj + x)).map V.int := by rw [List.map_set]
        have kt : Kt Hj (upd Hj wl (.lst ((Ks.set j (kj + x)).map V.int))) := Kt.put ewj
        rw [hset]
        refine ⟨vw, W, many, wl, Ks.set j (kj + x), _, rfl, hWx, fun g' => DV.keepP (fun b l e => kt _ _ ((Kv.kp (g := g) Sd kdj).tup _ _ e)) (wb_pur W) (hvwd g), by omega, by omega, upd_same, by rw [List.length_set]; exact hKl, fun p hp => ?_, (Sj.upF fw.1 fw.2.1 fw.2.2).mono (by omega), kdj.upF hwl⟩
        rcases List.mem_or_eq_of_mem_set hp with hp | rfl
        · exact hKb p hp
        · have := hK1 kj (List.mem_of_getElem? hjk)
          omega
      refine ifF (decide_eq_false fun z => h1 (V.int.inj z)) ⟨_, rfl, rfl, _, rfl, ?_⟩
      by_cases h2 : y = 2
      · refine ifT (by rw [h2]; rfl) ⟨_, rfl, _, rfl, (by show 3 ≤ sizeLine; decide), fun q hq => ?_⟩
        generalize hHg : upd Hf q _ = Hg
        obtain ⟨sq, eq⟩ := freshF hq hHg
        refine ⟨d, g, c, q, _, _, rfl, Sf.keep sq, by omega, eq, (Sf.free hq).2.1, by simp, (by show 3 ≤ 1000000; decide), fun v Hh hv Sh kph => ?_⟩
        obtain ⟨x, rfl, hx⟩ : ∃ x : Int, v = .int x ∧ 1 ≤ x ∧ x ≤ 5 := by
          simp only [List.mem_cons, List.not_mem_nil, or_false] at hv
          rcases hv with rfl | rfl | rfl
          · exact ⟨1, rfl, by decide⟩
          · exact ⟨2, rfl, by decide⟩
          · exact ⟨5, rfl, by decide⟩
        have kfh : Kp d g Hf Hh := (Kp.of sq).trans kph
        have kdh : Kp d g Hd Hh := kdf.trans kfh
        exact ⟨_, _, rfl, rfl, vw, W, many + x, wl, Ks, _, rfl, hWx, (fun g' => DV.keepP (Kv.kp (g := g) Sd kdh).tup (wb_pur W) (hvwd g)), by omega, by omega, kfh _ _ ewf fw.1 fw.2.1, hKl, hKb, Sh.mono (by omega), kdh⟩
      refine ifF (decide_eq_false fun z => h2 (V.int.inj z)) ?_
      refine ⟨_, rfl, d, g, c, _, true, rfl, Sf, by omega, fun vo Wo Hh hWo Sh kph hvo => ?_⟩
      refine ⟨9, rfl, by decide, by decide, fun D hD => ?_⟩
      have fD' := Sh.free hD
      refine lc_it (walk_range (lo := 0) (n := (9 : Int).toNat)) (fun m H' => ∃ ks : List Int, H' D = some (.lst (ks.map V.int)) ∧ ks.length = m ∧ (∀ x ∈ ks, 0 ≤ x ∧ x < 5) ∧ StA H' d g c (2000 + 1100 * i + 1 + 1000 + m) ∧ Kp d g Hh H')
        ⟨[], upd_same, rfl, (fun x hx => by cases hx), Sh.keep (same_new hD), Kp.of (same_new hD)⟩ (fun _ _ _ _ => trivial) ?_ ?_
      · rintro m x Hjz Hj hm ⟨ks, ej, hkl, hks, Sj, kpj⟩ ⟨rfl, rfl⟩
        have hm9 : m < 9 := hm
        refine ⟨rfl, ?_⟩
        refine ⟨_, rfl, d, g, c, _, 5, rfl, Sj, by omega, by decide, by decide, fun u Hk w0 w1 Sk kpk => ?_⟩
        have ek := kpk _ _ ej fD'.1 fD'.2.1
        refine ⟨_, ek, by rw [List.length_map, hkl, sizeLine_eq]; omega, ks ++ [u], by rw [upd_same, List.map_append]; rfl, by rw [List.length_append, hkl]; rfl, ?_, (Sk.upF fD'.1 fD'.2.1 fD'.2.2).mono (by omega), (kpj.trans kpk).upF hD⟩
        intro x hx
        rcases List.mem_append.mp hx with hx | hx
        · exact hks x hx
        · rw [List.mem_singleton.mp hx]
          exact ⟨w0, w1⟩
      rintro Hj ⟨ks, ej, hkl, hks, Sj, kpj⟩
      have hkl : ks.length = 9 := hkl
      have hvoj : ∀ g', DV g' Hj vo (wbD Wo) := fun g' => DV.keepP (Kv.kp (g := g) Sh kpj).tup (wb_pur Wo) (hvo g)
      obtain ⟨bo, co, xo, rfl, ebo, eco, _⟩ := wb_at (hvoj g)
      have hlo := hWo.ok.lb
      have hlo5 := hWo.lb
      refine ⟨_, _, rfl, _, rfl, ?_⟩
      unfold tNoPart
      refine ⟨_, rfl, bo, _, 0, _, rfl, rfl, SqT.of ebo, atI_nat (j := 0) rfl, _, rfl, D, _, rfl, SqL.of ej, fun l hl => ?_⟩
      have hcut : cutV (ks.map V.int) none (some Wo.lb) = (ks.take Wo.lb.toNat).map V.int := by
        unfold cutV
        have e : Wo.lb = ((Wo.lb.toNat : Nat) : Int) := (Int.toNat_of_nonneg hlo.1).symm
        rw [HT.sIx_none, e, HT.sIx_nat, List.length_map, hkl, List.drop_zero, List.map_take, Int.toNat_natCast]
        congr 1
        omega
      rw [hcut]
      generalize hHl : upd Hj l _ = Hl
      obtain ⟨sl, el⟩ := freshF hl hHl
      exact ⟨_, Wo, many, l, ks.take Wo.lb.toNat, _, rfl, hWo.x, (fun g' => (hvoj g').keep (Kv.of sl)), by omega, by omega, el, by rw [List.length_take]; omega, (fun p hp => by have := hks p (List.mem_of_mem_take hp); omega), (Sj.keep sl).mono (by omega), kdf.trans (kph.trans (kpj.trans (Kp.of sl)))⟩
    rintro σ He' ⟨vo, Wo, dn, wz, pr, w11, rfl, hWo, hvo, n0, n1, ewz, hpl, hpb, Sx, kdx⟩
    refine ⟨_, rfl, _, rfl, _, rfl, wz, _, rfl, .inl ⟨SqL.of ewz, fun t ht => ?_⟩⟩
    generalize hHy : upd He' t _ = Hy
    obtain ⟨st, et⟩ := freshF ht hHy
    have okwo := hWo.ok
    refine he_pre ((hvo g).keep (Kv.of st)) okwo n0 (by omega) et hpl fun v1 Hz sz hv1 bd => ?_
    obtain ⟨sh1, sh2, sh3, sh4⟩ := du_show hWo hpl (den := dn) (by omega) hpb bd
    have hpu := duD_pur Wo dn pr
    refine ⟨v1, _, rfl, dv_dp hpu (hv1 g), sh1, sh2, sh3, sh4, ?_⟩
    have sxz := st.trans sz
    refine ⟨_, rfl, _, rfl, _, rfl, g, wz, vo, Wo, dn, pr, rfl, (hvo g).keep (Kv.of sxz), okwo, hWo.e, .inr (sxz _ _ ewz), (fun p hp => by have := hpb p hp; omega), hpl, by omega, by omega, fun v2 Hw sw hv2 => ?_⟩
    refine ⟨v2, _, rfl, dv_dp hpu (hv2 g), sh1, sh2, sh3, sh4, ?_⟩
    refine ⟨rfl, _, rfl, ifF (by rw [decide_eq_true rfl]; rfl) ?_⟩
    have sxw := sxz.trans sw
    have kdw : Kp d g Hd Hw := kdx.trans (Kp.of sxw)
    have kvw : Kv g Hd Hw := Kv.kp Sd kdw
    exact ⟨_, _, _, _, _, _, rfl, (Sx.keep sxw).mono (by omega), (fun g' => DV.keepP kvw.tup (wb_pur W) (hvwd g)), kvw.tup _ _ hcpd, tabs_kp Xd Sd kdw⟩
  rintro σ Hd ⟨v6, v7, v8, v9, v10, v11, rfl, Sd, hvwd, hcpd, Xd⟩
  exact ⟨_, rfl, _, rfl, _, rfl, d, g, c, cp, _, vw, W, Ks, rfl, Xd, Sd, by show 2000 + 1100 * 3 ≤ 800000000; decide, hvwd g, okw, hcpd, hKl, fun H' => rfl⟩
end
end K67

set_option Elab.async false
set_option linter.all false
set_option pp.maxSteps 900
set_option maxRecDepth 100000
set_option maxHeartbeats 8000000
namespace K67
open PySem PySem.Spec PyProof.Rows L2
open LamX (GivesTo CodeO Tabs TabS TabB tLam pe_lamcall lamCx lamEnv lamS_by ExtN)
open TL (tl)
theorem exm_of {K : PySem.W.Frag} {S B : Addr} (h1 : PySem.W.subIn K (.ref B) (.type "BaseException") = some true) (h2 : PySem.W.isClsIn K B = true) (h3 : PySem.W.typeIn K (.ref B) = some (.type "type")) (h4 : PySem.W.subIn K (.ref S) (.ref B) = some true) :
    PySem.W.exmOne K (.ref S) (.ref B) = some true := by
  have e1 : (PySem.W.subIn K (.ref B) (.type "BaseException") == some true) = true := by rw [h1] <;> rfl
  have e2 : ((PySem.W.clsIn K B).isSome && PySem.W.typeIn K (.ref B) == some (.type "type")) = true := by
    have h2' : (PySem.W.clsIn K B).isSome = true := h2
    rw [h2', h3] <;> rfl
  show (if (PySem.W.subIn K (.ref B) (.type "BaseException") == some true) = true then (if ((PySem.W.clsIn K B).isSome && PySem.W.typeIn K (.ref B) == some (.type "type")) = true then PySem.W.subIn K (.ref S) (.ref B) else none) else none) = some true
  rw [if_pos e1, if_pos e2]
  exact h4
def valStr : Value → Option Str
  | .str s _ => some s
  | _ => none
theorem vals_of : ∀ {us : List Value} {ss : List Str}, us.map valStr = ss.map some → Vals (ss.map V.str) us
  | [], [], _ => .nil
  | [], _ :: _, h => by cases h
  | _ :: _, [], h => by cases h
  | u :: us, s :: ss, h => by
    injection h with h1 h2
    refine .cons ?_ (vals_of h2)
    cases u with
    | str x t =>
      obtain rfl := Option.some.inj h1
      exact ⟨_, rfl⟩
    | _ => cases h1
theorem all_mk {l : PySem.W.OpenLaw} {w : World} {K : PySem.W.Frag} {h : Heap} {mg : Str → Option Value} {fa CE E1 E2 E3 CED CHT cL T1 : Addr} (X : K.In h) (G : h.Ns mainGlobals mg) (hfa : mg "law" = some (.ref fa))
    {f1 : Addr} {od1 an1 : Option Addr} {sl1 : Array (Option Value)} {oc1 kV1 dc1 pm1 cd1 ct1 : Value}
    {f2 : Addr} {od2 an2 : Option Addr} {sl2 : Array (Option Value)} {oc2 kV2 dc2 pm2 cd2 ct2 : Value}
    {f3 : Addr} {od3 an3 : Option Addr} {sl3 : Array (Option Value)} {oc3 kV3 dc3 pm3 cd3 ct3 : Value}
    {f4 : Addr} {od4 an4 : Option Addr} {sl4 : Array (Option Value)} {oc4 kV4 dc4 pm4 cd4 ct4 : Value}
    {f5 : Addr} {od5 an5 : Option Addr} {sl5 : Array (Option Value)} {oc5 kV5 dc5 pm5 cd5 ct5 : Value}
    {f6 : Addr} {od6 an6 : Option Addr} {sl6 : Array (Option Value)} {oc6 kV6 dc6 pm6 cd6 ct6 : Value}
    {f7 : Addr} {od7 an7 : Option Addr} {sl7 : Array (Option Value)} {oc7 kV7 dc7 pm7 cd7 ct7 : Value}
    {f8 : Addr} {od8 an8 : Option Addr} {sl8 : Array (Option Value)} {oc8 kV8 dc8 pm8 cd8 ct8 : Value}
    {f9 : Addr} {od9 an9 : Option Addr} {sl9 : Array (Option Value)} {oc9 kV9 dc9 pm9 cd9 ct9 : Value}
    {f10 : Addr} {od10 an10 : Option Addr} {sl10 : Array (Option Value)} {oc10 kV10 dc10 pm10 cd10 ct10 : Value}
    {f11 : Addr} {od11 an11 : Option Addr} {sl11 : Array (Option Value)} {oc11 kV11 dc11 pm11 cd11 ct11 : Value}
    {f12 : Addr} {od12 an12 : Option Addr} {sl12 : Array (Option Value)} {oc12 kV12 dc12 pm12 cd12 ct12 : Value}
    {f13 : Addr} {od13 an13 : Option Addr} {sl13 : Array (Option Value)} {oc13 kV13 dc13 pm13 cd13 ct13 : Value}
    {f14 : Addr} {od14 an14 : Option Addr} {sl14 : Array (Option Value)} {oc14 kV14 dc14 pm14 cd14 ct14 : Value}
    {f15 : Addr} {od15 an15 : Option Addr} {sl15 : Array (Option Value)} {oc15 kV15 dc15 pm15 cd15 ct15 : Value}
    {f16 : Addr} {od16 an16 : Option Addr} {sl16 : Array (Option Value)} {oc16 kV16 dc16 pm16 cd16 ct16 : Value}
    {f17 : Addr} {od17 an17 : Option Addr} {sl17 : Array (Option Value)} {oc17 kV17 dc17 pm17 cd17 ct17 : Value}
    {f18 : Addr} {od18 an18 : Option Addr} {sl18 : Array (Option Value)} {oc18 kV18 dc18 pm18 cd18 ct18 : Value}
    {f19 : Addr} {od19 an19 : Option Addr} {sl19 : Array (Option Value)} {oc19 kV19 dc19 pm19 cd19 ct19 : Value}
    {f20 : Addr} {od20 an20 : Option Addr} {sl20 : Array (Option Value)} {oc20 kV20 dc20 pm20 cd20 ct20 : Value}
    {f21 : Addr} {od21 an21 : Option Addr} {sl21 : Array (Option Value)} {oc21 kV21 dc21 pm21 cd21 ct21 : Value}
    {f22 : Addr} {od22 an22 : Option Addr} {sl22 : Array (Option Value)} {oc22 kV22 dc22 pm22 cd22 ct22 : Value}
    {f23 : Addr} {od23 an23 : Option Addr} {sl23 : Array (Option Value)} {oc23 kV23 dc23 pm23 cd23 ct23 : Value}
    {f24 : Addr} {od24 an24 : Option Addr} {sl24 : Array (Option Value)} {oc24 kV24 dc24 pm24 cd24 ct24 : Value}
    {f25 : Addr} {od25 an25 : Option Addr} {sl25 : Array (Option Value)} {oc25 kV25 dc25 pm25 cd25 ct25 : Value}
    {f26 : Addr} {od26 an26 : Option Addr} {sl26 : Array (Option Value)} {oc26 kV26 dc26 pm26 cd26 ct26 : Value}
    {f27 : Addr} {od27 an27 : Option Addr} {sl27 : Array (Option Value)} {oc27 kV27 dc27 pm27 cd27 ct27 : Value}
    {f28 : Addr} {od28 an28 : Option Addr} {sl28 : Array (Option Value)} {oc28 kV28 dc28 pm28 cd28 ct28 : Value}
    {f29 : Addr} {od29 an29 : Option Addr} {sl29 : Array (Option Value)} {oc29 kV29 dc29 pm29 cd29 ct29 : Value}
    {f30 : Addr} {od30 an30 : Option Addr} {sl30 : Array (Option Value)} {oc30 kV30 dc30 pm30 cd30 ct30 : Value}
    {f31 : Addr} {od31 an31 : Option Addr} {sl31 : Array (Option Value)} {oc31 kV31 dc31 pm31 cd31 ct31 : Value}
    {f32 : Addr} {od32 an32 : Option Addr} {sl32 : Array (Option Value)} {oc32 kV32 dc32 pm32 cd32 ct32 : Value}
    {f33 : Addr} {od33 an33 : Option Addr} {sl33 : Array (Option Value)} {oc33 kV33 dc33 pm33 cd33 ct33 : Value}
    {f34 : Addr} {od34 an34 : Option Addr} {sl34 : Array (Option Value)} {oc34 kV34 dc34 pm34 cd34 ct34 : Value}
    {f35 : Addr} {od35 an35 : Option Addr} {sl35 : Array (Option Value)} {oc35 kV35 dc35 pm35 cd35 ct35 : Value}
    {f36 : Addr} {od36 an36 : Option Addr} {sl36 : Array (Option Value)} {oc36 kV36 dc36 pm36 cd36 ct36 : Value}
    {f37 : Addr} {od37 an37 : Option Addr} {sl37 : Array (Option Value)} {oc37 kV37 dc37 pm37 cd37 ct37 : Value}
    {f38 : Addr} {od38 an38 : Option Addr} {sl38 : Array (Option Value)} {oc38 kV38 dc38 pm38 cd38 ct38 : Value}
    {f39 : Addr} {od39 an39 : Option Addr} {sl39 : Array (Option Value)} {oc39 kV39 dc39 pm39 cd39 ct39 : Value}
    {f40 : Addr} {od40 an40 : Option Addr} {sl40 : Array (Option Value)} {oc40 kV40 dc40 pm40 cd40 ct40 : Value}
    {f41 : Addr} {od41 an41 : Option Addr} {sl41 : Array (Option Value)} {oc41 kV41 dc41 pm41 cd41 ct41 : Value}
    {f42 : Addr} {od42 an42 : Option Addr} {sl42 : Array (Option Value)} {oc42 kV42 dc42 pm42 cd42 ct42 : Value}
    {f43 : Addr} {od43 an43 : Option Addr} {sl43 : Array (Option Value)} {oc43 kV43 dc43 pm43 cd43 ct43 : Value}
    {f44 : Addr} {od44 an44 : Option Addr} {sl44 : Array (Option Value)} {oc44 kV44 dc44 pm44 ct44 : Value}
    {f45 : Addr} {od45 an45 : Option Addr} {sl45 : Array (Option Value)} {oc45 kV45 dc45 pm45 cd45 ct45 : Value}
    {x_MOST_BEATS : Int} {t_MOST_BEATS : PySem.Tok}
    {x_MOST_EDGE_LABELS : Int} {t_MOST_EDGE_LABELS : PySem.Tok}
    {x_MOST_LABELS : Int} {t_MOST_LABELS : PySem.Tok}
    {x_MOST_NETS : Int} {t_MOST_NETS : PySem.Tok}
    {x_MOST_PLACES : Int} {t_MOST_PLACES : PySem.Tok}
    {x_MOST_EDGES : Int} {t_MOST_EDGES : PySem.Tok}
    (a1 : PySem.W.nsIn K mainGlobals "_law_mixed" = some (some (.ref f1)))
    (l1 : K.lookup f1 = some ⟨oc1, od1, .func (PySem.W.fnOf "_law_mixed" "_law_mixed" (defArgs sMix) (defBody sMix) (defScope sMix) .none kV1 dc1 pm1 an1 cd1 ct1), sl1⟩)
    (c1 : PySem.W.codeIn K cd1 "_law_mixed" = true)
    (k1 : PySem.W.keepIn K (.ref f1) = true)
    (a2 : PySem.W.nsIn K mainGlobals "_law_draw" = some (some (.ref f2)))
    (l2 : K.lookup f2 = some ⟨oc2, od2, .func (PySem.W.fnOf "_law_draw" "_law_draw" (defArgs sDrw) (defBody sDrw) (defScope sDrw) .none kV2 dc2 pm2 an2 cd2 ct2), sl2⟩)
    (c2 : PySem.W.codeIn K cd2 "_law_draw" = true)
    (k2 : PySem.W.keepIn K (.ref f2) = true)
    (a3 : PySem.W.nsIn K mainGlobals "_law_pick" = some (some (.ref f3)))
    (l3 : K.lookup f3 = some ⟨oc3, od3, .func (PySem.W.fnOf "_law_pick" "_law_pick" (defArgs sPck) (defBody sPck) (defScope sPck) .none kV3 dc3 pm3 an3 cd3 ct3), sl3⟩)
    (c3 : PySem.W.codeIn K cd3 "_law_pick" = true)
    (k3 : PySem.W.keepIn K (.ref f3) = true)
    (a4 : PySem.W.nsIn K mainGlobals "_law_begun" = some (some (.ref f4)))
    (l4 : K.lookup f4 = some ⟨oc4, od4, .func (PySem.W.fnOf "_law_begun" "_law_begun" (defArgs sBeg) (defBody sBeg) (defScope sBeg) .none kV4 dc4 pm4 an4 cd4 ct4), sl4⟩)
    (c4 : PySem.W.codeIn K cd4 "_law_begun" = true)
    (k4 : PySem.W.keepIn K (.ref f4) = true)
    (a5 : PySem.W.nsIn K mainGlobals "is_whole" = some (some (.ref f5)))
    (l5 : K.lookup f5 = some ⟨oc5, od5, .func (PySem.W.fnOf "is_whole" "is_whole" (defArgs sWhl) (defBody sWhl) (defScope sWhl) .none kV5 dc5 pm5 an5 cd5 ct5), sl5⟩)
    (c5 : PySem.W.codeIn K cd5 "is_whole" = true)
    (k5 : PySem.W.keepIn K (.ref f5) = true)
    (a6 : PySem.W.nsIn K mainGlobals "is_within" = some (some (.ref f6)))
    (l6 : K.lookup f6 = some ⟨oc6, od6, .func (PySem.W.fnOf "is_within" "is_within" (defArgs sWin) (defBody sWin) (defScope sWin) .none kV6 dc6 pm6 an6 cd6 ct6), sl6⟩)
    (c6 : PySem.W.codeIn K cd6 "is_within" = true)
    (k6 : PySem.W.keepIn K (.ref f6) = true)
    (a7 : PySem.W.nsIn K mainGlobals "is_tuple_of" = some (some (.ref f7)))
    (l7 : K.lookup f7 = some ⟨oc7, od7, .func (PySem.W.fnOf "is_tuple_of" "is_tuple_of" (defArgs sTof) (defBody sTof) (defScope sTof) .none kV7 dc7 pm7 an7 cd7 ct7), sl7⟩)
    (c7 : PySem.W.codeIn K cd7 "is_tuple_of" = true)
    (k7 : PySem.W.keepIn K (.ref f7) = true)
    (a8 : PySem.W.nsIn K mainGlobals "is_tuple_within" = some (some (.ref f8)))
    (l8 : K.lookup f8 = some ⟨oc8, od8, .func (PySem.W.fnOf "is_tuple_within" "is_tuple_within" (defArgs sTin) (defBody sTin) (defScope sTin) .none kV8 dc8 pm8 an8 cd8 ct8), sl8⟩)
    (c8 : PySem.W.codeIn K cd8 "is_tuple_within" = true)
    (k8 : PySem.W.keepIn K (.ref f8) = true)
    (a9 : PySem.W.nsIn K mainGlobals "_is_head" = some (some (.ref f9)))
    (l9 : K.lookup f9 = some ⟨oc9, od9, .func (PySem.W.fnOf "_is_head" "_is_head" (defArgs sHd) (defBody sHd) (defScope sHd) .none kV9 dc9 pm9 an9 cd9 ct9), sl9⟩)
    (c9 : PySem.W.codeIn K cd9 "_is_head" = true)
    (k9 : PySem.W.keepIn K (.ref f9) = true)
    (a10 : PySem.W.nsIn K mainGlobals "_is_edge" = some (some (.ref f10)))
    (l10 : K.lookup f10 = some ⟨oc10, od10, .func (PySem.W.fnOf "_is_edge" "_is_edge" (defArgs sEd) (defBody sEd) (defScope sEd) .none kV10 dc10 pm10 an10 cd10 ct10), sl10⟩)
    (c10 : PySem.W.codeIn K cd10 "_is_edge" = true)
    (k10 : PySem.W.keepIn K (.ref f10) = true)
    (a11 : PySem.W.nsIn K mainGlobals "is_web" = some (some (.ref f11)))
    (l11 : K.lookup f11 = some ⟨oc11, od11, .func (PySem.W.fnOf "is_web" "is_web" (defArgs sWeb) (defBody sWeb) (defScope sWeb) .none kV11 dc11 pm11 an11 cd11 ct11), sl11⟩)
    (c11 : PySem.W.codeIn K cd11 "is_web" = true)
    (k11 : PySem.W.keepIn K (.ref f11) = true)
    (a12 : PySem.W.nsIn K mainGlobals "need_web" = some (some (.ref f12)))
    (l12 : K.lookup f12 = some ⟨oc12, od12, .func (PySem.W.fnOf "need_web" "need_web" (defArgs sNeed) (defBody sNeed) (defScope sNeed) .none kV12 dc12 pm12 an12 cd12 ct12), sl12⟩)
    (c12 : PySem.W.codeIn K cd12 "need_web" = true)
    (k12 : PySem.W.keepIn K (.ref f12) = true)
    (a13 : PySem.W.nsIn K mainGlobals "_law_shuffled" = some (some (.ref f13)))
    (l13 : K.lookup f13 = some ⟨oc13, od13, .func (PySem.W.fnOf "_law_shuffled" "_law_shuffled" (defArgs sShf) (defBody sShf) (defScope sShf) .none kV13 dc13 pm13 an13 cd13 ct13), sl13⟩)
    (c13 : PySem.W.codeIn K cd13 "_law_shuffled" = true)
    (k13 : PySem.W.keepIn K (.ref f13) = true)
    (a14 : PySem.W.nsIn K mainGlobals "_law_wb_edge" = some (some (.ref f14)))
    (l14 : K.lookup f14 = some ⟨oc14, od14, .func (PySem.W.fnOf "_law_wb_edge" "_law_wb_edge" (defArgs sWE) (defBody sWE) (defScope sWE) .none kV14 dc14 pm14 an14 cd14 ct14), sl14⟩)
    (c14 : PySem.W.codeIn K cd14 "_law_wb_edge" = true)
    (k14 : PySem.W.keepIn K (.ref f14) = true)
    (a15 : PySem.W.nsIn K mainGlobals "_law_wb_net" = some (some (.ref f15)))
    (l15 : K.lookup f15 = some ⟨oc15, od15, .func (PySem.W.fnOf "_law_wb_net" "_law_wb_net" (defArgs sWN) (defBody sWN) (defScope sWN) .none kV15 dc15 pm15 an15 cd15 ct15), sl15⟩)
    (c15 : PySem.W.codeIn K cd15 "_law_wb_net" = true)
    (k15 : PySem.W.keepIn K (.ref f15) = true)
    (a16 : PySem.W.nsIn K mainGlobals "_law_wb_web" = some (some (.ref f16)))
    (l16 : K.lookup f16 = some ⟨oc16, od16, .func (PySem.W.fnOf "_law_wb_web" "_law_wb_web" (defArgs sWW) (defBody sWW) (defScope sWW) .none kV16 dc16 pm16 an16 cd16 ct16), sl16⟩)
    (c16 : PySem.W.codeIn K cd16 "_law_wb_web" = true)
    (k16 : PySem.W.keepIn K (.ref f16) = true)
    (a17 : PySem.W.nsIn K mainGlobals "_law_wb_sum" = some (some (.ref f17)))
    (l17 : K.lookup f17 = some ⟨oc17, od17, .func (PySem.W.fnOf "_law_wb_sum" "_law_wb_sum" (defArgs sSum) (defBody sSum) (defScope sSum) .none kV17 dc17 pm17 an17 cd17 ct17), sl17⟩)
    (c17 : PySem.W.codeIn K cd17 "_law_wb_sum" = true)
    (k17 : PySem.W.keepIn K (.ref f17) = true)
    (a18 : PySem.W.nsIn K mainGlobals "_law_wb_own" = some (some (.ref f18)))
    (l18 : K.lookup f18 = some ⟨oc18, od18, .func (PySem.W.fnOf "_law_wb_own" "_law_wb_own" (defArgs sOwn) (defBody sOwn) (defScope sOwn) .none kV18 dc18 pm18 an18 cd18 ct18), sl18⟩)
    (c18 : PySem.W.codeIn K cd18 "_law_wb_own" = true)
    (k18 : PySem.W.keepIn K (.ref f18) = true)
    (a19 : PySem.W.nsIn K mainGlobals "_law_wb_roads" = some (some (.ref f19)))
    (l19 : K.lookup f19 = some ⟨oc19, od19, .func (PySem.W.fnOf "_law_wb_roads" "_law_wb_roads" (defArgs sRd) (defBody sRd) (defScope sRd) .none kV19 dc19 pm19 an19 cd19 ct19), sl19⟩)
    (c19 : PySem.W.codeIn K cd19 "_law_wb_roads" = true)
    (k19 : PySem.W.keepIn K (.ref f19) = true)
    (a20 : PySem.W.findIn K (.ref CED) "__init__" = some (some (.ref f20)))
    (l20 : K.lookup f20 = some ⟨oc20, od20, .func (PySem.W.fnOf "__init__" "Edge.__init__" (defArgs sEI) (defBody sEI) (defScope sEI) .none kV20 dc20 pm20 an20 cd20 ct20), sl20⟩)
    (c20 : PySem.W.codeIn K cd20 "Edge.__init__" = true)
    (k20 : PySem.W.keepIn K (.ref f20) = true)
    (a21 : PySem.W.findIn K (.ref CED) "spots_needed" = some (some (.ref f21)))
    (l21 : K.lookup f21 = some ⟨oc21, od21, .func (PySem.W.fnOf "spots_needed" "Edge.spots_needed" (defArgs sSN) (defBody sSN) (defScope sSN) .none kV21 dc21 pm21 an21 cd21 ct21), sl21⟩)
    (c21 : PySem.W.codeIn K cd21 "Edge.spots_needed" = true)
    (k21 : PySem.W.keepIn K (.ref f21) = true)
    (a22 : PySem.W.findIn K (.ref CHT) "is_useful" = some (some (.ref f22)))
    (l22 : K.lookup f22 = some ⟨oc22, od22, .func (PySem.W.fnOf "is_useful" "Chart.is_useful" (defArgs sIU) (defBody sIU) (defScope sIU) .none kV22 dc22 pm22 an22 cd22 ct22), sl22⟩)
    (c22 : PySem.W.codeIn K cd22 "Chart.is_useful" = true)
    (k22 : PySem.W.keepIn K (.ref f22) = true)
    (a23 : PySem.W.findIn K (.ref CHT) "is_finished" = some (some (.ref f23)))
    (l23 : K.lookup f23 = some ⟨oc23, od23, .func (PySem.W.fnOf "is_finished" "Chart.is_finished" (defArgs sIF) (defBody sIF) (defScope sIF) .none kV23 dc23 pm23 an23 cd23 ct23), sl23⟩)
    (c23 : PySem.W.codeIn K cd23 "Chart.is_finished" = true)
    (k23 : PySem.W.keepIn K (.ref f23) = true)
    (a24 : PySem.W.findIn K (.ref CHT) "is_open" = some (some (.ref f24)))
    (l24 : K.lookup f24 = some ⟨oc24, od24, .func (PySem.W.fnOf "is_open" "Chart.is_open" (defArgs sIO) (defBody sIO) (defScope sIO) .none kV24 dc24 pm24 an24 cd24 ct24), sl24⟩)
    (c24 : PySem.W.codeIn K cd24 "Chart.is_open" = true)
    (k24 : PySem.W.keepIn K (.ref f24) = true)
    (a25 : PySem.W.findIn K (.ref CHT) "finish" = some (some (.ref f25)))
    (l25 : K.lookup f25 = some ⟨oc25, od25, .func (PySem.W.fnOf "finish" "Chart.finish" (defArgs sFi) (defBody sFi) (defScope sFi) .none kV25 dc25 pm25 an25 cd25 ct25), sl25⟩)
    (c25 : PySem.W.codeIn K cd25 "Chart.finish" = true)
    (k25 : PySem.W.keepIn K (.ref f25) = true)
    (a26 : PySem.W.findIn K (.ref CHT) "reach" = some (some (.ref f26)))
    (l26 : K.lookup f26 = some ⟨oc26, od26, .func (PySem.W.fnOf "reach" "Chart.reach" (defArgs sRe) (defBody sRe) (defScope sRe) .none kV26 dc26 pm26 an26 cd26 ct26), sl26⟩)
    (c26 : PySem.W.codeIn K cd26 "Chart.reach" = true)
    (k26 : PySem.W.keepIn K (.ref f26) = true)
    (a27 : PySem.W.findIn K (.ref CHT) "__init__" = some (some (.ref f27)))
    (l27 : K.lookup f27 = some ⟨oc27, od27, .func (PySem.W.fnOf "__init__" "Chart.__init__" (defArgs sCI) (defBody sCI) (defScope sCI) .none kV27 dc27 pm27 an27 cd27 ct27), sl27⟩)
    (c27 : PySem.W.codeIn K cd27 "Chart.__init__" = true)
    (k27 : PySem.W.keepIn K (.ref f27) = true)
    (a28 : PySem.W.nsIn K mainGlobals "_law_wb_going" = some (some (.ref f28)))
    (l28 : K.lookup f28 = some ⟨oc28, od28, .func (PySem.W.fnOf "_law_wb_going" "_law_wb_going" (defArgs sGo) (defBody sGo) (defScope sGo) .none kV28 dc28 pm28 an28 cd28 ct28), sl28⟩)
    (c28 : PySem.W.codeIn K cd28 "_law_wb_going" = true)
    (k28 : PySem.W.keepIn K (.ref f28) = true)
    (a29 : PySem.W.nsIn K mainGlobals "_law_wb_used" = some (some (.ref f29)))
    (l29 : K.lookup f29 = some ⟨oc29, od29, .func (PySem.W.fnOf "_law_wb_used" "_law_wb_used" (defArgs sUd) (defBody sUd) (defScope sUd) .none kV29 dc29 pm29 an29 cd29 ct29), sl29⟩)
    (c29 : PySem.W.codeIn K cd29 "_law_wb_used" = true)
    (k29 : PySem.W.keepIn K (.ref f29) = true)
    (a30 : PySem.W.nsIn K mainGlobals "_law_wb_worth" = some (some (.ref f30)))
    (l30 : K.lookup f30 = some ⟨oc30, od30, .func (PySem.W.fnOf "_law_wb_worth" "_law_wb_worth" (defArgs sWo) (defBody sWo) (defScope sWo) .none kV30 dc30 pm30 an30 cd30 ct30), sl30⟩)
    (c30 : PySem.W.codeIn K cd30 "_law_wb_worth" = true)
    (k30 : PySem.W.keepIn K (.ref f30) = true)
    (a31 : PySem.W.nsIn K mainGlobals "_law_wb_rests" = some (some (.ref f31)))
    (l31 : K.lookup f31 = some ⟨oc31, od31, .func (PySem.W.fnOf "_law_wb_rests" "_law_wb_rests" (defArgs sRs) (defBody sRs) (defScope sRs) .none kV31 dc31 pm31 an31 cd31 ct31), sl31⟩)
    (c31 : PySem.W.codeIn K cd31 "_law_wb_rests" = true)
    (k31 : PySem.W.keepIn K (.ref f31) = true)
    (a32 : PySem.W.nsIn K mainGlobals "_law_wb_heights" = some (some (.ref f32)))
    (l32 : K.lookup f32 = some ⟨oc32, od32, .func (PySem.W.fnOf "_law_wb_heights" "_law_wb_heights" (defArgs sHt) (defBody sHt) (defScope sHt) .none kV32 dc32 pm32 an32 cd32 ct32), sl32⟩)
    (c32 : PySem.W.codeIn K cd32 "_law_wb_heights" = true)
    (k32 : PySem.W.keepIn K (.ref f32) = true)
    (a33 : PySem.W.nsIn K mainGlobals "_law_due" = some (some (.ref f33)))
    (l33 : K.lookup f33 = some ⟨oc33, od33, .func (PySem.W.fnOf "_law_due" "_law_due" (defArgs sDu) (defBody sDu) (defScope sDu) .none kV33 dc33 pm33 an33 cd33 ct33), sl33⟩)
    (c33 : PySem.W.codeIn K cd33 "_law_due" = true)
    (k33 : PySem.W.keepIn K (.ref f33) = true)
    (a34 : PySem.W.nsIn K mainGlobals "_is_den" = some (some (.ref f34)))
    (l34 : K.lookup f34 = some ⟨oc34, od34, .func (PySem.W.fnOf "_is_den" "_is_den" (defArgs sDn) (defBody sDn) (defScope sDn) .none kV34 dc34 pm34 an34 cd34 ct34), sl34⟩)
    (c34 : PySem.W.codeIn K cd34 "_is_den" = true)
    (k34 : PySem.W.keepIn K (.ref f34) = true)
    (a35 : PySem.W.nsIn K mainGlobals "_are_prices" = some (some (.ref f35)))
    (l35 : K.lookup f35 = some ⟨oc35, od35, .func (PySem.W.fnOf "_are_prices" "_are_prices" (defArgs sAP) (defBody sAP) (defScope sAP) .none kV35 dc35 pm35 an35 cd35 ct35), sl35⟩)
    (c35 : PySem.W.codeIn K cd35 "_are_prices" = true)
    (k35 : PySem.W.keepIn K (.ref f35) = true)
    (a36 : PySem.W.nsIn K mainGlobals "cost_behind" = some (some (.ref f36)))
    (l36 : K.lookup f36 = some ⟨oc36, od36, .func (PySem.W.fnOf "cost_behind" "cost_behind" (defArgs sCB) (defBody sCB) (defScope sCB) .none kV36 dc36 pm36 an36 cd36 ct36), sl36⟩)
    (c36 : PySem.W.codeIn K cd36 "cost_behind" = true)
    (k36 : PySem.W.keepIn K (.ref f36) = true)
    (a37 : PySem.W.nsIn K mainGlobals "_costs" = some (some (.ref f37)))
    (l37 : K.lookup f37 = some ⟨oc37, od37, .func (PySem.W.fnOf "_costs" "_costs" (defArgs sCo) (defBody sCo) (defScope sCo) .none kV37 dc37 pm37 an37 cd37 ct37), sl37⟩)
    (c37 : PySem.W.codeIn K cd37 "_costs" = true)
    (k37 : PySem.W.keepIn K (.ref f37) = true)
    (a38 : PySem.W.nsIn K mainGlobals "net_by_net" = some (some (.ref f38)))
    (l38 : K.lookup f38 = some ⟨oc38, od38, .func (PySem.W.fnOf "net_by_net" "net_by_net" (defArgs sNN) (defBody sNN) (defScope sNN) .none kV38 dc38 pm38 an38 cd38 ct38), sl38⟩)
    (c38 : PySem.W.codeIn K cd38 "net_by_net" = true)
    (k38 : PySem.W.keepIn K (.ref f38) = true)
    (a39 : PySem.W.nsIn K mainGlobals "heights_on" = some (some (.ref f39)))
    (l39 : K.lookup f39 = some ⟨oc39, od39, .func (PySem.W.fnOf "heights_on" "heights_on" (defArgs sHO) (defBody sHO) (defScope sHO) .none kV39 dc39 pm39 an39 cd39 ct39), sl39⟩)
    (c39 : PySem.W.codeIn K cd39 "heights_on" = true)
    (k39 : PySem.W.keepIn K (.ref f39) = true)
    (a40 : PySem.W.nsIn K mainGlobals "heights" = some (some (.ref f40)))
    (l40 : K.lookup f40 = some ⟨oc40, od40, .func (PySem.W.fnOf "heights" "heights" (defArgs sHe) (defBody sHe) (defScope sHe) .none kV40 dc40 pm40 an40 cd40 ct40), sl40⟩)
    (c40 : PySem.W.codeIn K cd40 "heights" = true)
    (k40 : PySem.W.keepIn K (.ref f40) = true)
    (a41 : PySem.W.nsIn K mainGlobals "_law_wb_planted" = some (some (.ref f41)))
    (l41 : K.lookup f41 = some ⟨oc41, od41, .func (PySem.W.fnOf "_law_wb_planted" "_law_wb_planted" (defArgs sPl) (defBody sPl) (defScope sPl) .none kV41 dc41 pm41 an41 cd41 ct41), sl41⟩)
    (c41 : PySem.W.codeIn K cd41 "_law_wb_planted" = true)
    (k41 : PySem.W.keepIn K (.ref f41) = true)
    (a42 : PySem.W.nsIn K mainGlobals "_law_wb_changed" = some (some (.ref f42)))
    (l42 : K.lookup f42 = some ⟨oc42, od42, .func (PySem.W.fnOf "_law_wb_changed" "_law_wb_changed" (defArgs sCg) (defBody sCg) (defScope sCg) .none kV42 dc42 pm42 an42 cd42 ct42), sl42⟩)
    (c42 : PySem.W.codeIn K cd42 "_law_wb_changed" = true)
    (k42 : PySem.W.keepIn K (.ref f42) = true)
    (a43 : PySem.W.nsIn K mainGlobals "_law_caught" = some (some (.ref f43)))
    (l43 : K.lookup f43 = some ⟨oc43, od43, .func (PySem.W.fnOf "_law_caught" "_law_caught" (defArgs sCgt) (defBody sCgt) (defScope sCgt) .none kV43 dc43 pm43 an43 cd43 ct43), sl43⟩)
    (c43 : PySem.W.codeIn K cd43 "_law_caught" = true)
    (k43 : PySem.W.keepIn K (.ref f43) = true)
    (a44 : PySem.W.nsIn K mainGlobals "_law_refused" = some (some (.ref f44)))
    (l44 : K.lookup f44 = some ⟨oc44, od44, .func (PySem.W.fnOf "_law_refused" "_law_refused" (defArgs sRf) (defBody sRf) (defScope sRf) .none kV44 dc44 pm44 an44 (.ref cL) ct44), sl44⟩)
    (c44 : PySem.W.codeIn K (.ref cL) "_law_refused" = true)
    (k44 : PySem.W.keepIn K (.ref f44) = true)
    (a45 : PySem.W.nsIn K mainGlobals "law" = some (some (.ref f45)))
    (l45 : K.lookup f45 = some ⟨oc45, od45, .func (PySem.W.fnOf "law" "law" (defArgs sLaw) (defBody sLaw) (defScope sLaw) .none kV45 dc45 pm45 an45 cd45 ct45), sl45⟩)
    (c45 : PySem.W.codeIn K cd45 "law" = true)
    (k45 : PySem.W.keepIn K (.ref f45) = true)
    (z_isinstance : PySem.W.nsIn K mainGlobals "isinstance" = some none)
    (z_len : PySem.W.nsIn K mainGlobals "len" = some none)
    (z_str : PySem.W.nsIn K mainGlobals "str" = some none)
    (z_int : PySem.W.nsIn K mainGlobals "int" = some none)
    (z_bool : PySem.W.nsIn K mainGlobals "bool" = some none)
    (z_tuple : PySem.W.nsIn K mainGlobals "tuple" = some none)
    (z_list : PySem.W.nsIn K mainGlobals "list" = some none)
    (z_all : PySem.W.nsIn K mainGlobals "all" = some none)
    (z_range : PySem.W.nsIn K mainGlobals "range" = some none)
    (z_min : PySem.W.nsIn K mainGlobals "min" = some none)
    (z_zip : PySem.W.nsIn K mainGlobals "zip" = some none)
    (z_enumerate : PySem.W.nsIn K mainGlobals "enumerate" = some none)
    (z_abs : PySem.W.nsIn K mainGlobals "abs" = some none)
    (z_sum : PySem.W.nsIn K mainGlobals "sum" = some none)
    (z_repr : PySem.W.nsIn K mainGlobals "repr" = some none)
    (v_MOST_BEATS : PySem.W.nsIn K mainGlobals "MOST_BEATS" = some (some (.int x_MOST_BEATS t_MOST_BEATS)))
    (e_MOST_BEATS : x_MOST_BEATS = 1000000000)
    (v_MOST_EDGE_LABELS : PySem.W.nsIn K mainGlobals "MOST_EDGE_LABELS" = some (some (.int x_MOST_EDGE_LABELS t_MOST_EDGE_LABELS)))
    (e_MOST_EDGE_LABELS : x_MOST_EDGE_LABELS = 8)
    (v_MOST_LABELS : PySem.W.nsIn K mainGlobals "MOST_LABELS" = some (some (.int x_MOST_LABELS t_MOST_LABELS)))
    (e_MOST_LABELS : x_MOST_LABELS = 4000)
    (v_MOST_NETS : PySem.W.nsIn K mainGlobals "MOST_NETS" = some (some (.int x_MOST_NETS t_MOST_NETS)))
    (e_MOST_NETS : x_MOST_NETS = 400)
    (v_MOST_PLACES : PySem.W.nsIn K mainGlobals "MOST_PLACES" = some (some (.int x_MOST_PLACES t_MOST_PLACES)))
    (e_MOST_PLACES : x_MOST_PLACES = 4000)
    (v_MOST_EDGES : PySem.W.nsIn K mainGlobals "MOST_EDGES" = some (some (.int x_MOST_EDGES t_MOST_EDGES)))
    (e_MOST_EDGES : x_MOST_EDGES = 8000)
    (aCE : PySem.W.nsIn K mainGlobals "ClockError" = some (some (.ref CE)))
    (sE : PySem.W.subIn K (.ref CE) (.type "BaseException") = some true)
    (iE : PySem.W.isClsIn K CE = true)
    (tE : PySem.W.typeIn K (.ref CE) = some (.type "type"))
    (spO : PySem.W.specialIn K (.builtin "object.__class__") "__get__" = some (some (.builtin "getset_descriptor.__get__")))
    (tkO : PySem.W.takesIn K (.builtin "object.__class__") = some true)
    (aE1 : PySem.W.nsIn K mainGlobals "BadWeb" = some (some (.ref E1)))
    (kE1 : PySem.W.keepIn K (.ref E1) = true)
    (xE1 : PySem.W.excIn K E1 [.type "ValueError", .type "Exception", .type "BaseException", .type "object"] "ValueError.__new__" = true)
    (sBE1 : PySem.W.subIn K (.ref E1) (.type "BaseException") = some true)
    (tE1 : PySem.W.typeIn K (.ref E1) = some (.type "type"))
    (sEE1 : PySem.W.subIn K (.ref E1) (.ref CE) = some true)
    (gE1 : PySem.W.findIn K (.ref E1) "__getattribute__" = some (some (.builtin "BaseException.__getattribute__")))
    (ggE1 : PySem.W.findIn K (.ref E1) "__getattr__" = some none)
    (hdE1 : PySem.W.hasDictIn K E1 = true)
    (clE1 : PySem.W.findIn K (.ref E1) "__class__" = some (some (.builtin "object.__class__")))
    (mrE1 : PySem.W.mroIn K E1 (.type "object") = some true)
    (aE2 : PySem.W.nsIn K mainGlobals "BadDen" = some (some (.ref E2)))
    (kE2 : PySem.W.keepIn K (.ref E2) = true)
    (xE2 : PySem.W.excIn K E2 [.type "ValueError", .type "Exception", .type "BaseException", .type "object"] "ValueError.__new__" = true)
    (sBE2 : PySem.W.subIn K (.ref E2) (.type "BaseException") = some true)
    (tE2 : PySem.W.typeIn K (.ref E2) = some (.type "type"))
    (sEE2 : PySem.W.subIn K (.ref E2) (.ref CE) = some true)
    (gE2 : PySem.W.findIn K (.ref E2) "__getattribute__" = some (some (.builtin "BaseException.__getattribute__")))
    (ggE2 : PySem.W.findIn K (.ref E2) "__getattr__" = some none)
    (hdE2 : PySem.W.hasDictIn K E2 = true)
    (clE2 : PySem.W.findIn K (.ref E2) "__class__" = some (some (.builtin "object.__class__")))
    (mrE2 : PySem.W.mroIn K E2 (.type "object") = some true)
    (aE3 : PySem.W.nsIn K mainGlobals "BadPrices" = some (some (.ref E3)))
    (kE3 : PySem.W.keepIn K (.ref E3) = true)
    (xE3 : PySem.W.excIn K E3 [.type "ValueError", .type "Exception", .type "BaseException", .type "object"] "ValueError.__new__" = true)
    (sBE3 : PySem.W.subIn K (.ref E3) (.type "BaseException") = some true)
    (tE3 : PySem.W.typeIn K (.ref E3) = some (.type "type"))
    (sEE3 : PySem.W.subIn K (.ref E3) (.ref CE) = some true)
    (gE3 : PySem.W.findIn K (.ref E3) "__getattribute__" = some (some (.builtin "BaseException.__getattribute__")))
    (ggE3 : PySem.W.findIn K (.ref E3) "__getattr__" = some none)
    (hdE3 : PySem.W.hasDictIn K E3 = true)
    (clE3 : PySem.W.findIn K (.ref E3) "__class__" = some (some (.builtin "object.__class__")))
    (mrE3 : PySem.W.mroIn K E3 (.type "object") = some true)
    (aCED : PySem.W.nsIn K mainGlobals "Edge" = some (some (.ref CED)))
    (kCED : PySem.W.keepIn K (.ref CED) = true)
    (pgCED : PySem.W.plainGet K CED Str.empty = true)
    (hdCED : PySem.W.hasDictIn K CED = true)
    (poCED : PySem.W.plainOver K CED = true)
    (saCED : PySem.W.findIn K (.ref CED) "__setattr__" = some (some (.builtin "object.__setattr__")))
    (mkCED : PySem.W.makesIn K CED = true)
    (n0CED : PySem.W.findIn K (.ref CED) "net" = some none)
    (n1CED : PySem.W.findIn K (.ref CED) "at" = some none)
    (n2CED : PySem.W.findIn K (.ref CED) "spot" = some none)
    (n3CED : PySem.W.findIn K (.ref CED) "goal" = some none)
    (n4CED : PySem.W.findIn K (.ref CED) "called" = some none)
    (n5CED : PySem.W.findIn K (.ref CED) "start" = some none)
    (n6CED : PySem.W.findIn K (.ref CED) "edge_beats" = some none)
    (n7CED : PySem.W.findIn K (.ref CED) "labels" = some none)
    (fn20 : PySem.W.isFn K (.ref f20) = true)
    (fn21 : PySem.W.isFn K (.ref f21) = true)
    (aCHT : PySem.W.nsIn K mainGlobals "Chart" = some (some (.ref CHT)))
    (kCHT : PySem.W.keepIn K (.ref CHT) = true)
    (pgCHT : PySem.W.plainGet K CHT Str.empty = true)
    (hdCHT : PySem.W.hasDictIn K CHT = true)
    (poCHT : PySem.W.plainOver K CHT = true)
    (saCHT : PySem.W.findIn K (.ref CHT) "__setattr__" = some (some (.builtin "object.__setattr__")))
    (mkCHT : PySem.W.makesIn K CHT = true)
    (n0CHT : PySem.W.findIn K (.ref CHT) "label_count" = some none)
    (n1CHT : PySem.W.findIn K (.ref CHT) "starts" = some none)
    (n2CHT : PySem.W.findIn K (.ref CHT) "ends" = some none)
    (n3CHT : PySem.W.findIn K (.ref CHT) "spot_count" = some none)
    (n4CHT : PySem.W.findIn K (.ref CHT) "edges" = some none)
    (n5CHT : PySem.W.findIn K (.ref CHT) "ends_at" = some none)
    (n6CHT : PySem.W.findIn K (.ref CHT) "choice" = some none)
    (n7CHT : PySem.W.findIn K (.ref CHT) "order" = some none)
    (n8CHT : PySem.W.findIn K (.ref CHT) "came" = some none)
    (n9CHT : PySem.W.findIn K (.ref CHT) "callers" = some none)
    (n10CHT : PySem.W.findIn K (.ref CHT) "used" = some none)
    (fn22 : PySem.W.isFn K (.ref f22) = true)
    (fn23 : PySem.W.isFn K (.ref f23) = true)
    (fn24 : PySem.W.isFn K (.ref f24) = true)
    (fn25 : PySem.W.isFn K (.ref f25) = true)
    (fn26 : PySem.W.isFn K (.ref f26) = true)
    (fn27 : PySem.W.isFn K (.ref f27) = true)
    (neCHTCED : CHT ≠ CED)
    (hdrT1 : PySem.W.codeHdIn K cL T1 = true)
    (npT1 : K.lookup T1 = none)
    (hTT1 : h.get? T1 = some { cls := .none, data := .fields #[] })
    : GD.LawG l w K 63 mg fa h := by
  have e := hfa.symm.trans (PySem.W.mg_of X G a45)
  cases e
  subst e_MOST_BEATS e_MOST_EDGE_LABELS e_MOST_LABELS e_MOST_NETS e_MOST_PLACES e_MOST_EDGES
  have F1 := fun_mk (st := sMix) l1 c1 k1
  have b1 := F1.binds (ps := ["state"]) fun _ _ _ _ _ _ us hl => match us, hl with | [_], _ => rfl
  have F2 := fun_mk (st := sDrw) l2 c2 k2
  have b2 := F2.binds (ps := ["state", "room"]) fun _ _ _ _ _ _ us hl => match us, hl with | [_, _], _ => rfl
  have F3 := fun_mk (st := sPck) l3 c3 k3
  have b3 := F3.binds (ps := ["state", "some"]) fun _ _ _ _ _ _ us hl => match us, hl with | [_, _], _ => rfl
  have F4 := fun_mk (st := sBeg) l4 c4 k4
  have b4 := F4.binds (ps := ["script"]) fun _ _ _ _ _ _ us hl => match us, hl with | [_], _ => rfl
  have F5 := fun_mk (st := sWhl) l5 c5 k5
  have b5 := F5.binds (ps := ["value"]) fun _ _ _ _ _ _ us hl => match us, hl with | [_], _ => rfl
  have F6 := fun_mk (st := sWin) l6 c6 k6
  have b6 := F6.binds (ps := ["value", "low", "high"]) fun _ _ _ _ _ _ us hl => match us, hl with | [_, _, _], _ => rfl
  have F7 := fun_mk (st := sTof) l7 c7 k7
  have b7 := F7.binds (ps := ["value", "many"]) fun _ _ _ _ _ _ us hl => match us, hl with | [_, _], _ => rfl
  have F8 := fun_mk (st := sTin) l8 c8 k8
  have b8 := F8.binds (ps := ["value", "low", "high"]) fun _ _ _ _ _ _ us hl => match us, hl with | [_, _, _], _ => rfl
  have F9 := fun_mk (st := sHd) l9 c9 k9
  have b9 := F9.binds (ps := ["value"]) fun _ _ _ _ _ _ us hl => match us, hl with | [_], _ => rfl
  have F10 := fun_mk (st := sEd) l10 c10 k10
  have b10 := F10.binds (ps := ["value", "places", "nets", "labels"]) fun _ _ _ _ _ _ us hl => match us, hl with | [_, _, _, _], _ => rfl
  have F11 := fun_mk (st := sWeb) l11 c11 k11
  have b11 := F11.binds (ps := ["value"]) fun _ _ _ _ _ _ us hl => match us, hl with | [_], _ => rfl
  have F12 := fun_mk (st := sNeed) l12 c12 k12
  have b12 := F12.binds (ps := ["web"]) fun _ _ _ _ _ _ us hl => match us, hl with | [_], _ => rfl
  have F13 := fun_mk (st := sShf) l13 c13 k13
  have b13 := F13.binds (ps := ["state", "some"]) fun _ _ _ _ _ _ us hl => match us, hl with | [_, _], _ => rfl
  have F14 := fun_mk (st := sWE) l14 c14 k14
  have b14 := F14.binds (ps := ["state", "here", "to", "calls", "labels", "low"]) fun _ _ _ _ _ _ us hl => match us, hl with | [_, _, _, _, _, _], _ => rfl
  have F15 := fun_mk (st := sWN) l15 c15 k15
  have b15 := F15.binds (ps := ["state", "at", "many", "labels", "low"]) fun _ _ _ _ _ _ us hl => match us, hl with | [_, _, _, _, _], _ => rfl
  have F16 := fun_mk (st := sWW) l16 c16 k16
  have b16 := F16.binds (ps := ["state", "low"]) fun _ _ _ _ _ _ us hl => match us, hl with | [_, _], _ => rfl
  have F17 := fun_mk (st := sSum) l17 c17 k17
  have b17 := F17.binds (ps := ["one", "other", "times"]) fun _ _ _ _ _ _ us hl => match us, hl with | [_, _, _], _ => rfl
  have F18 := fun_mk (st := sOwn) l18 c18 k18
  have b18 := F18.binds (ps := ["web", "edge"]) fun _ _ _ _ _ _ us hl => match us, hl with | [_, _], _ => rfl
  have F19 := fun_mk (st := sRd) l19 c19 k19
  have b19 := F19.binds (ps := ["web"]) fun _ _ _ _ _ _ us hl => match us, hl with | [_], _ => rfl
  have F20 := fun_mk (st := sEI) l20 c20 k20
  have b20 := F20.binds (ps := ["self", "net", "at", "told", "starts"]) fun _ _ _ _ _ _ us hl => match us, hl with | [_, _, _, _, _], _ => rfl
  have F21 := fun_mk (st := sSN) l21 c21 k21
  have b21 := F21.binds (ps := ["self"]) fun _ _ _ _ _ _ us hl => match us, hl with | [_], _ => rfl
  have F22 := fun_mk (st := sIU) l22 c22 k22
  have b22 := F22.binds (ps := ["self", "spot"]) fun _ _ _ _ _ _ us hl => match us, hl with | [_, _], _ => rfl
  have F23 := fun_mk (st := sIF) l23 c23 k23
  have b23 := F23.binds (ps := ["self", "spot"]) fun _ _ _ _ _ _ us hl => match us, hl with | [_, _], _ => rfl
  have F24 := fun_mk (st := sIO) l24 c24 k24
  have b24 := F24.binds (ps := ["self", "edge"]) fun _ _ _ _ _ _ us hl => match us, hl with | [_, _], _ => rfl
  have F25 := fun_mk (st := sFi) l25 c25 k25
  have b25 := F25.binds (ps := ["self"]) fun _ _ _ _ _ _ us hl => match us, hl with | [_], _ => rfl
  have F26 := fun_mk (st := sRe) l26 c26 k26
  have b26 := F26.binds (ps := ["self"]) fun _ _ _ _ _ _ us hl => match us, hl with | [_], _ => rfl
  have F27 := fun_mk (st := sCI) l27 c27 k27
  have b27 := F27.binds (ps := ["self", "web"]) fun _ _ _ _ _ _ us hl => match us, hl with | [_, _], _ => rfl
  have F28 := fun_mk (st := sGo) l28 c28 k28
  have b28 := F28.binds (ps := ["web", "roads", "pair"]) fun _ _ _ _ _ _ us hl => match us, hl with | [_, _, _], _ => rfl
  have F29 := fun_mk (st := sUd) l29 c29 k29
  have b29 := F29.binds (ps := ["web", "roads"]) fun _ _ _ _ _ _ us hl => match us, hl with | [_, _], _ => rfl
  have F30 := fun_mk (st := sWo) l30 c30 k30
  have b30 := F30.binds (ps := ["rest", "den", "costs"]) fun _ _ _ _ _ _ us hl => match us, hl with | [_, _, _], _ => rfl
  have F31 := fun_mk (st := sRs) l31 c31 k31
  have b31 := F31.binds (ps := ["web", "roads", "used"]) fun _ _ _ _ _ _ us hl => match us, hl with | [_, _, _], _ => rfl
  have F32 := fun_mk (st := sHt) l32 c32 k32
  have b32 := F32.binds (ps := ["web", "roads", "used", "den", "costs"]) fun _ _ _ _ _ _ us hl => match us, hl with | [_, _, _, _, _], _ => rfl
  have F33 := fun_mk (st := sDu) l33 c33 k33
  have b33 := F33.binds (ps := ["web", "den", "prices"]) fun _ _ _ _ _ _ us hl => match us, hl with | [_, _, _], _ => rfl
  have F34 := fun_mk (st := sDn) l34 c34 k34
  have b34 := F34.binds (ps := ["value"]) fun _ _ _ _ _ _ us hl => match us, hl with | [_], _ => rfl
  have F35 := fun_mk (st := sAP) l35 c35 k35
  have b35 := F35.binds (ps := ["web", "value"]) fun _ _ _ _ _ _ us hl => match us, hl with | [_, _], _ => rfl
  have F36 := fun_mk (st := sCB) l36 c36 k36
  have b36 := F36.binds (ps := ["chart", "costs", "at", "worth"]) fun _ _ _ _ _ _ us hl => match us, hl with | [_, _, _, _], _ => rfl
  have F37 := fun_mk (st := sCo) l37 c37 k37
  have b37 := F37.binds (ps := ["chart", "den", "prices"]) fun _ _ _ _ _ _ us hl => match us, hl with | [_, _, _], _ => rfl
  have F38 := fun_mk (st := sNN) l38 c38 k38
  have b38 := F38.binds (ps := ["chart", "worth"]) fun _ _ _ _ _ _ us hl => match us, hl with | [_, _], _ => rfl
  have F39 := fun_mk (st := sHO) l39 c39 k39
  have b39 := F39.binds (ps := ["chart", "den", "prices"]) fun _ _ _ _ _ _ us hl => match us, hl with | [_, _, _], _ => rfl
  have F40 := fun_mk (st := sHe) l40 c40 k40
  have b40 := F40.binds (ps := ["web", "den", "prices"]) fun _ _ _ _ _ _ us hl => match us, hl with | [_, _, _], _ => rfl
  have F41 := fun_mk (st := sPl) l41 c41 k41
  have b41 := F41.binds (ps := ["state", "web", "many"]) fun _ _ _ _ _ _ us hl => match us, hl with | [_, _, _], _ => rfl
  have F42 := fun_mk (st := sCg) l42 c42 k42
  have b42 := F42.binds (ps := ["state", "web"]) fun _ _ _ _ _ _ us hl => match us, hl with | [_, _], _ => rfl
  have F43 := fun_mk (st := sCgt) l43 c43 k43
  have b43 := F43.binds (ps := ["action"]) fun _ _ _ _ _ _ us hl => match us, hl with | [_], _ => rfl
  have F44 := fun_mk (st := sRf) l44 c44 k44
  have b44 := F44.binds (ps := ["state", "web", "prices"]) fun _ _ _ _ _ _ us hl => match us, hl with | [_, _, _], _ => rfl
  have F45 := fun_mk (st := sLaw) l45 c45 k45
  have b45 := F45.binds (ps := ["script"]) fun _ _ _ _ _ _ us hl => match us, hl with | [_], _ => rfl
  have g_MOST_BEATS : ∃ t, mg "MOST_BEATS" = some (.int (1000000000 : Int) t) := ⟨_, PySem.W.mg_of X G v_MOST_BEATS⟩
  have g_MOST_EDGE_LABELS : ∃ t, mg "MOST_EDGE_LABELS" = some (.int (8 : Int) t) := ⟨_, PySem.W.mg_of X G v_MOST_EDGE_LABELS⟩
  have g_MOST_LABELS : ∃ t, mg "MOST_LABELS" = some (.int (4000 : Int) t) := ⟨_, PySem.W.mg_of X G v_MOST_LABELS⟩
  have g_MOST_NETS : ∃ t, mg "MOST_NETS" = some (.int (400 : Int) t) := ⟨_, PySem.W.mg_of X G v_MOST_NETS⟩
  have g_MOST_PLACES : ∃ t, mg "MOST_PLACES" = some (.int (4000 : Int) t) := ⟨_, PySem.W.mg_of X G v_MOST_PLACES⟩
  have g_MOST_EDGES : ∃ t, mg "MOST_EDGES" = some (.int (8000 : Int) t) := ⟨_, PySem.W.mg_of X G v_MOST_EDGES⟩
  have TP : MgP K mg f5 := ⟨(PySem.W.mg_of X G a5), k5, (PySem.W.mg_none_of X G z_isinstance), (PySem.W.mg_none_of X G z_len), (PySem.W.mg_none_of X G z_int), (PySem.W.mg_none_of X G z_bool), (PySem.W.mg_none_of X G z_tuple)⟩
  have B : Bn mg := ⟨(PySem.W.mg_none_of X G z_isinstance), (PySem.W.mg_none_of X G z_len), (PySem.W.mg_none_of X G z_str), (PySem.W.mg_none_of X G z_int), (PySem.W.mg_none_of X G z_bool), (PySem.W.mg_none_of X G z_tuple), (PySem.W.mg_none_of X G z_list), (PySem.W.mg_none_of X G z_all), (PySem.W.mg_none_of X G z_range), (PySem.W.mg_none_of X G z_min), (PySem.W.mg_none_of X G z_zip), (PySem.W.mg_none_of X G z_enumerate)⟩
  have TS : MgS K mg f1 f2 := ⟨(PySem.W.mg_none_of X G z_int), (PySem.W.mg_none_of X G z_len), (PySem.W.mg_of X G a1), k1, (PySem.W.mg_of X G a2), k2⟩
  have R_BadWeb : Er K mg "BadWeb" E1 := ⟨PySem.W.mg_of X G aE1, xE1, kE1, sBE1, tE1⟩
  have K_BadWeb : Ek K mg "BadWeb" CE E1 := ⟨PySem.W.mg_of X G aE1, exm_of sE iE tE sEE1, ⟨gE1, ggE1, sBE1, hdE1, clE1, spO, tkO, mrE1⟩⟩
  have R_BadDen : Er K mg "BadDen" E2 := ⟨PySem.W.mg_of X G aE2, xE2, kE2, sBE2, tE2⟩
  have K_BadDen : Ek K mg "BadDen" CE E2 := ⟨PySem.W.mg_of X G aE2, exm_of sE iE tE sEE2, ⟨gE2, ggE2, sBE2, hdE2, clE2, spO, tkO, mrE2⟩⟩
  have R_BadPrices : Er K mg "BadPrices" E3 := ⟨PySem.W.mg_of X G aE3, xE3, kE3, sBE3, tE3⟩
  have K_BadPrices : Ek K mg "BadPrices" CE E3 := ⟨PySem.W.mg_of X G aE3, exm_of sE iE tE sEE3, ⟨gE3, ggE3, sBE3, hdE3, clE3, spO, tkO, mrE3⟩⟩
  have clCED : ClA K CED eNames := ⟨⟨pgCED, hdCED, poCED, saCED⟩, fun f hf => by
    rcases List.mem_cons.mp hf with rfl | hf
    · exact n0CED
    rcases List.mem_cons.mp hf with rfl | hf
    · exact n1CED
    rcases List.mem_cons.mp hf with rfl | hf
    · exact n2CED
    rcases List.mem_cons.mp hf with rfl | hf
    · exact n3CED
    rcases List.mem_cons.mp hf with rfl | hf
    · exact n4CED
    rcases List.mem_cons.mp hf with rfl | hf
    · exact n5CED
    rcases List.mem_cons.mp hf with rfl | hf
    · exact n6CED
    rcases List.mem_cons.mp hf with rfl | hf
    · exact n7CED
    cases hf⟩
  have MCED : Mk K CED f20 := ⟨mkCED, a20, fn20, kCED⟩
  have mCED_spots_needed : Meth K CED "spots_needed" f21 := ⟨a21, fn21, k21⟩
  have clCHT : ClA K CHT cNames := ⟨⟨pgCHT, hdCHT, poCHT, saCHT⟩, fun f hf => by
    rcases List.mem_cons.mp hf with rfl | hf
    · exact n0CHT
    rcases List.mem_cons.mp hf with rfl | hf
    · exact n1CHT
    rcases List.mem_cons.mp hf with rfl | hf
    · exact n2CHT
    rcases List.mem_cons.mp hf with rfl | hf
    · exact n3CHT
    rcases List.mem_cons.mp hf with rfl | hf
    · exact n4CHT
    rcases List.mem_cons.mp hf with rfl | hf
    · exact n5CHT
    rcases List.mem_cons.mp hf with rfl | hf
    · exact n6CHT
    rcases List.mem_cons.mp hf with rfl | hf
    · exact n7CHT
    rcases List.mem_cons.mp hf with rfl | hf
    · exact n8CHT
    rcases List.mem_cons.mp hf with rfl | hf
    · exact n9CHT
    rcases List.mem_cons.mp hf with rfl | hf
    · exact n10CHT
    cases hf⟩
  have mCHT_is_useful : Meth K CHT "is_useful" f22 := ⟨a22, fn22, k22⟩
  have mCHT_is_finished : Meth K CHT "is_finished" f23 := ⟨a23, fn23, k23⟩
  have mCHT_is_open : Meth K CHT "is_open" f24 := ⟨a24, fn24, k24⟩
  have mCHT_finish : Meth K CHT "finish" f25 := ⟨a25, fn25, k25⟩
  have mCHT_reach : Meth K CHT "reach" f26 := ⟨a26, fn26, k26⟩
  have MCHT : Mk K CHT f27 := ⟨mkCHT, a27, fn27, kCHT⟩
  have HK : ChK K CHT _ _ _ _ _ := ⟨clCHT, mCHT_is_useful, mCHT_is_finished, mCHT_is_open, mCHT_finish, mCHT_reach⟩
  have TC : MgC mg K CE f43 := ⟨(PySem.W.mg_of X G a43), k43, PySem.W.mg_of X G aCE⟩
  refine ⟨[(cL, T1)], fun p hp => ?_, fun p hp => ?_, fun p hp => ?_, fun s a ns hl _ base H hTB e0 hT hS => ?_⟩
  · rw [List.mem_singleton.mp hp]
    exact hTT1
  · rw [List.mem_singleton.mp hp]
    exact npT1
  · rw [List.mem_singleton.mp hp]
    exact PySem.W.codeHd_of_K X hdrT1
  · have G__law_mixed := ok_mix (P := l.prog) (w := w) (mg := mg) (base := base) F1 TS
    have G__law_draw := ok_drw (P := l.prog) (w := w) (mg := mg) (base := base) F2 TS F1 b1
    have G__law_pick := ok_pck (P := l.prog) (w := w) (mg := mg) (base := base) F3 TS F1 b1 F2 b2
    have G__law_begun := ok_beg (P := l.prog) (w := w) (mg := mg) (base := base) F4 (PySem.W.mg_none_of X G z_abs)
    have G_is_whole := ok_whl (P := l.prog) (w := w) (mg := mg) (base := base) F5 TP
    have G_is_within := ok_win (P := l.prog) (w := w) (mg := mg) (base := base) F6 TP F5 b5
    have G_is_tuple_of := ok_tof (P := l.prog) (w := w) (mg := mg) (base := base) F7 TP
    have G_is_tuple_within := ok_tin (P := l.prog) (w := w) (mg := mg) (base := base) F8 TP
    have G__is_head := ok_hd (P := l.prog) (w := w) (mg := mg) (base := base) F9 B ⟨f7, _, G_is_tuple_of, (PySem.W.mg_of X G a7), k7, b7⟩ ⟨f5, _, G_is_whole, (PySem.W.mg_of X G a5), k5, b5⟩
    have G__is_edge := ok_ed (P := l.prog) (w := w) (mg := mg) (base := base) F10 B ⟨f7, _, G_is_tuple_of, (PySem.W.mg_of X G a7), k7, b7⟩ ⟨f8, _, G_is_tuple_within, (PySem.W.mg_of X G a8), k8, b8⟩ ⟨f6, _, G_is_within, (PySem.W.mg_of X G a6), k6, b6⟩ g_MOST_BEATS g_MOST_EDGE_LABELS
    have G_is_web := ok_web (P := l.prog) (w := w) (mg := mg) (base := base) F11 B (PySem.W.mg_none_of X G z_sum) ⟨f7, _, G_is_tuple_of, (PySem.W.mg_of X G a7), k7, b7⟩ ⟨f8, _, G_is_tuple_within, (PySem.W.mg_of X G a8), k8, b8⟩ ⟨f6, _, G_is_within, (PySem.W.mg_of X G a6), k6, b6⟩ ⟨f9, _, G__is_head, (PySem.W.mg_of X G a9), k9, b9⟩ ⟨f10, _, G__is_edge, (PySem.W.mg_of X G a10), k10, b10⟩ g_MOST_LABELS g_MOST_NETS g_MOST_PLACES g_MOST_EDGES
    have G_need_web := ok_need (P := l.prog) (w := w) (mg := mg) (base := base) F12 R_BadWeb ⟨f11, _, G_is_web, (PySem.W.mg_of X G a11), k11, b11⟩
    have G__law_shuffled := ok_shf (P := l.prog) (w := w) (mg := mg) (base := base) F13 B ⟨f2, _, G__law_draw, (PySem.W.mg_of X G a2), k2, b2⟩
    have G__law_wb_edge := ok_we (P := l.prog) (w := w) (mg := mg) (base := base) F14 B ⟨f2, _, G__law_draw, (PySem.W.mg_of X G a2), k2, b2⟩ ⟨f3, _, G__law_pick, (PySem.W.mg_of X G a3), k3, b3⟩
    have G__law_wb_net := ok_wn (P := l.prog) (w := w) (mg := mg) (base := base) F15 B ⟨f2, _, G__law_draw, (PySem.W.mg_of X G a2), k2, b2⟩ ⟨f3, _, G__law_pick, (PySem.W.mg_of X G a3), k3, b3⟩ ⟨f14, _, G__law_wb_edge, (PySem.W.mg_of X G a14), k14, b14⟩ ⟨f13, _, G__law_shuffled, (PySem.W.mg_of X G a13), k13, b13⟩
    have G__law_wb_web := ok_ww (P := l.prog) (w := w) (mg := mg) (base := base) F16 B ⟨f3, _, G__law_pick, (PySem.W.mg_of X G a3), k3, b3⟩ ⟨f15, _, G__law_wb_net, (PySem.W.mg_of X G a15), k15, b15⟩
    have G__law_wb_sum := ok_sum (P := l.prog) (w := w) (mg := mg) (base := base) F17 B
    have G__law_wb_own := ok_own (P := l.prog) (w := w) (mg := mg) (base := base) F18 B
    have G__law_wb_roads := ok_rd (P := l.prog) (w := w) (mg := mg) (base := base) F19 B ⟨f17, _, G__law_wb_sum, (PySem.W.mg_of X G a17), k17, b17⟩ ⟨f18, _, G__law_wb_own, (PySem.W.mg_of X G a18), k18, b18⟩
    have G_Edge___init__ := ok_ei (P := l.prog) (w := w) (mg := mg) (base := base) F20 clCED
    have G_Edge_spots_needed := ok_sn (P := l.prog) (w := w) (mg := mg) (base := base) F21 clCED
    have G_Chart_is_useful := ok_iu (P := l.prog) (w := w) (mg := mg) (base := base) F22 HK
    have G_Chart_is_finished := ok_if (P := l.prog) (w := w) (mg := mg) (base := base) F23 HK
    have G_Chart_is_open := ok_io (P := l.prog) (w := w) (mg := mg) (base := base) F24 B HK clCED mCED_spots_needed G_Chart_is_finished b23 G_Edge_spots_needed b21
    have G_Chart_finish := ok_fi (P := l.prog) (w := w) (mg := mg) (base := base) F25 B HK clCED mCED_spots_needed G_Edge_spots_needed b21
    have G_Chart_reach := ok_re (P := l.prog) (w := w) (mg := mg) (base := base) F26 B HK clCED G_Chart_is_open b24
    have G_Chart___init__ := ok_ci (P := l.prog) (w := w) (mg := mg) (base := base) F27 B HK clCED (PySem.W.mg_of X G aCED) MCED G_Chart_is_open b24 G_Chart_is_finished b23 G_Chart_finish b25 G_Chart_reach b26 G_Edge___init__ b20
    have G__law_wb_going := ok_go (P := l.prog) (w := w) (mg := mg) (base := base) F28 B
    have G__law_wb_used := ok_ud (P := l.prog) (w := w) (mg := mg) (base := base) F29 B ⟨f28, _, G__law_wb_going, (PySem.W.mg_of X G a28), k28, b28⟩
    have G__law_wb_worth := ok_wo (P := l.prog) (w := w) (mg := mg) (base := base) F30 B (PySem.W.mg_none_of X G z_sum)
    have G__law_wb_rests := ok_rs (P := l.prog) (w := w) (mg := mg) (base := base) F31 B ⟨f28, _, G__law_wb_going, (PySem.W.mg_of X G a28), k28, b28⟩ ⟨f17, _, G__law_wb_sum, (PySem.W.mg_of X G a17), k17, b17⟩ ⟨f18, _, G__law_wb_own, (PySem.W.mg_of X G a18), k18, b18⟩
    have G__law_wb_heights := ok_ht (P := l.prog) (w := w) (mg := mg) (base := base) F32 B ⟨f30, _, G__law_wb_worth, (PySem.W.mg_of X G a30), k30, b30⟩
    have G__law_due := ok_du (P := l.prog) (w := w) (mg := mg) (base := base) F33 B ⟨f30, _, G__law_wb_worth, (PySem.W.mg_of X G a30), k30, b30⟩ ⟨f19, _, G__law_wb_roads, (PySem.W.mg_of X G a19), k19, b19⟩ ⟨f29, _, G__law_wb_used, (PySem.W.mg_of X G a29), k29, b29⟩ ⟨f31, _, G__law_wb_rests, (PySem.W.mg_of X G a31), k31, b31⟩ ⟨f32, _, G__law_wb_heights, (PySem.W.mg_of X G a32), k32, b32⟩
    have G__is_den := ok_dn (P := l.prog) (w := w) (mg := mg) (base := base) F34 ⟨f5, _, G_is_whole, (PySem.W.mg_of X G a5), k5, b5⟩
    have G__are_prices := ok_ap (P := l.prog) (w := w) (mg := mg) (base := base) F35 B ⟨f7, _, G_is_tuple_of, (PySem.W.mg_of X G a7), k7, b7⟩ ⟨f5, _, G_is_whole, (PySem.W.mg_of X G a5), k5, b5⟩
    have G_cost_behind := ok_cb (P := l.prog) (w := w) (mg := mg) (base := base) F36 HK clCED
    have G__costs := ok_co (P := l.prog) (w := w) (mg := mg) (base := base) F37 B (PySem.W.mg_none_of X G z_sum) HK clCED
    have G_net_by_net := ok_nn (P := l.prog) (w := w) (mg := mg) (base := base) F38 B HK (CE := CED)
    have G_heights_on := ok_ho (P := l.prog) (w := w) (mg := mg) (base := base) F39 B HK clCED ⟨f37, _, G__costs, (PySem.W.mg_of X G a37), k37, b37⟩ ⟨f36, _, G_cost_behind, (PySem.W.mg_of X G a36), k36, b36⟩ ⟨f38, _, G_net_by_net, (PySem.W.mg_of X G a38), k38, b38⟩ G_Chart_is_useful b22
    have G_heights := ok_he (P := l.prog) (w := w) (mg := mg) (base := base) F40 B R_BadDen R_BadPrices ⟨f12, _, G_need_web, (PySem.W.mg_of X G a12), k12, b12⟩ HK neCHTCED (PySem.W.mg_of X G aCHT) MCHT G_Chart___init__ b27 ⟨f34, _, G__is_den, (PySem.W.mg_of X G a34), k34, b34⟩ ⟨f35, _, G__are_prices, (PySem.W.mg_of X G a35), k35, b35⟩ ⟨f39, _, G_heights_on, (PySem.W.mg_of X G a39), k39, b39⟩
    have G__law_wb_planted := ok_pl (P := l.prog) (w := w) (mg := mg) (base := base) F41 B (PySem.W.mg_none_of X G z_sum) ⟨f2, _, G__law_draw, (PySem.W.mg_of X G a2), k2, b2⟩ ⟨f3, _, G__law_pick, (PySem.W.mg_of X G a3), k3, b3⟩
    have G__law_wb_changed := ok_cg (P := l.prog) (w := w) (mg := mg) (base := base) F42 B ⟨f2, _, G__law_draw, (PySem.W.mg_of X G a2), k2, b2⟩ ⟨f3, _, G__law_pick, (PySem.W.mg_of X G a3), k3, b3⟩
    exact law_run l45 c45 B (PySem.W.mg_none_of X G z_repr) ⟨f4, _, G__law_begun, (PySem.W.mg_of X G a4), k4, b4⟩ ⟨f3, _, G__law_pick, (PySem.W.mg_of X G a3), k3, b3⟩ ⟨f2, _, G__law_draw, (PySem.W.mg_of X G a2), k2, b2⟩ ⟨f16, _, G__law_wb_web, (PySem.W.mg_of X G a16), k16, b16⟩ ⟨f41, _, G__law_wb_planted, (PySem.W.mg_of X G a41), k41, b41⟩ ⟨f42, _, G__law_wb_changed, (PySem.W.mg_of X G a42), k42, b42⟩ ⟨f33, _, G__law_due, (PySem.W.mg_of X G a33), k33, b33⟩ G_heights (PySem.W.mg_of X G a40) k40 b40 ⟨f44, _, (ok_rf l44 c44 l43 c43 (Binds.all fun us hl => match us, hl with | [_], _ => rfl) B TC K_BadWeb K_BadDen K_BadPrices (hTB _ (List.mem_cons_self ..)) ⟨f3, _, G__law_pick, (PySem.W.mg_of X G a3), k3, b3⟩ G_heights (PySem.W.mg_of X G a40) k40 b40), (PySem.W.mg_of X G a44), k44, b44⟩ e0 (hT _ (List.mem_cons_self ..)) hS hl
end K67

open PySem PySem.W PyProof.Rows
set_option Elab.async false
set_option pp.maxSteps 700
set_option maxRecDepth 100000 in
set_option maxHeartbeats 0 in
theorem PySem.Challenge.cw_labelclocks_k67_heights_exactly_where_pr_holds : PySem.Challenge.rw_labelclocks_k67_heights_exactly_where_pr.Holds := by
  w_on; o_law; k_head; (case hw => w_witness2)
  k_fill
  refine GD.walk_G (l := PySem.Challenge.rw_labelclocks_k67_heights_exactly_where_pr) (n := 63) rfl (by decide) rfl (fun w h Y => PySem.W.km_in_of Y) ?F
  case F =>
    intro w mg fa h Y KX G hmg
    have hT8 := PySem.W.km_tabs_of Y
    refine' K67.all_mk KX G hmg ?a1 ?l1 ?c1 ?k1 ?a2 ?l2 ?c2 ?k2 ?a3 ?l3 ?c3 ?k3 ?a4 ?l4 ?c4 ?k4 ?a5 ?l5 ?c5 ?k5 ?a6 ?l6 ?c6 ?k6 ?a7 ?l7 ?c7 ?k7 ?a8 ?l8 ?c8 ?k8 ?a9 ?l9 ?c9 ?k9 ?a10 ?l10 ?c10 ?k10 ?a11 ?l11 ?c11 ?k11 ?a12 ?l12 ?c12 ?k12 ?a13 ?l13 ?c13 ?k13 ?a14 ?l14 ?c14 ?k14 ?a15 ?l15 ?c15 ?k15 ?a16 ?l16 ?c16 ?k16 ?a17 ?l17 ?c17 ?k17 ?a18 ?l18 ?c18 ?k18 ?a19 ?l19 ?c19 ?k19 ?a20 ?l20 ?c20 ?k20 ?a21 ?l21 ?c21 ?k21 ?a22 ?l22 ?c22 ?k22 ?a23 ?l23 ?c23 ?k23 ?a24 ?l24 ?c24 ?k24 ?a25 ?l25 ?c25 ?k25 ?a26 ?l26 ?c26 ?k26 ?a27 ?l27 ?c27 ?k27 ?a28 ?l28 ?c28 ?k28 ?a29 ?l29 ?c29 ?k29 ?a30 ?l30 ?c30 ?k30 ?a31 ?l31 ?c31 ?k31 ?a32 ?l32 ?c32 ?k32 ?a33 ?l33 ?c33 ?k33 ?a34 ?l34 ?c34 ?k34 ?a35 ?l35 ?c35 ?k35 ?a36 ?l36 ?c36 ?k36 ?a37 ?l37 ?c37 ?k37 ?a38 ?l38 ?c38 ?k38 ?a39 ?l39 ?c39 ?k39 ?a40 ?l40 ?c40 ?k40 ?a41 ?l41 ?c41 ?k41 ?a42 ?l42 ?c42 ?k42 ?a43 ?l43 ?c43 ?k43 ?a44 ?l44 ?c44 ?k44 ?a45 ?l45 ?c45 ?k45 ?z_isinstance ?z_len ?z_str ?z_int ?z_bool ?z_tuple ?z_list ?z_all ?z_range ?z_min ?z_zip ?z_enumerate ?z_abs ?z_sum ?z_repr ?v_MOST_BEATS ?e_MOST_BEATS ?v_MOST_EDGE_LABELS ?e_MOST_EDGE_LABELS ?v_MOST_LABELS ?e_MOST_LABELS ?v_MOST_NETS ?e_MOST_NETS ?v_MOST_PLACES ?e_MOST_PLACES ?v_MOST_EDGES ?e_MOST_EDGES ?aCE ?sE ?iE ?tE ?spO ?tkO ?aE1 ?kE1 ?xE1 ?sBE1 ?tE1 ?sEE1 ?gE1 ?ggE1 ?hdE1 ?clE1 ?mrE1 ?aE2 ?kE2 ?xE2 ?sBE2 ?tE2 ?sEE2 ?gE2 ?ggE2 ?hdE2 ?clE2 ?mrE2 ?aE3 ?kE3 ?xE3 ?sBE3 ?tE3 ?sEE3 ?gE3 ?ggE3 ?hdE3 ?clE3 ?mrE3 ?aCED ?kCED ?pgCED ?hdCED ?poCED ?saCED ?mkCED ?n0CED ?n1CED ?n2CED ?n3CED ?n4CED ?n5CED ?n6CED ?n7CED ?fn20 ?fn21 ?aCHT ?kCHT ?pgCHT ?hdCHT ?poCHT ?saCHT ?mkCHT ?n0CHT ?n1CHT ?n2CHT ?n3CHT ?n4CHT ?n5CHT ?n6CHT ?n7CHT ?n8CHT ?n9CHT ?n10CHT ?fn22 ?fn23 ?fn24 ?fn25 ?fn26 ?fn27 ?neCHTCED ?hdrT1 ?npT1 ?hTT1
    (case aCE => k_is)
    (case aE1 => k_is)
    (case aE2 => k_is)
    (case aE3 => k_is)
    (case aCED => k_is)
    (case aCHT => k_is)
    (case a1 => k_is)
    (case l1 => k_is)
    (case c1 => k_is)
    (case k1 => k_is)
    (case a2 => k_is)
    (case l2 => k_is)
    (case c2 => k_is)
    (case k2 => k_is)
    (case a3 => k_is)
    (case l3 => k_is)
    (case c3 => k_is)
    (case k3 => k_is)
    (case a4 => k_is)
    (case l4 => k_is)
    (case c4 => k_is)
    (case k4 => k_is)
    (case a5 => k_is)
    (case l5 => k_is)
    (case c5 => k_is)
    (case k5 => k_is)
    (case a6 => k_is)
    (case l6 => k_is)
    (case c6 => k_is)
    (case k6 => k_is)
    (case a7 => k_is)
    (case l7 => k_is)
    (case c7 => k_is)
    (case k7 => k_is)
    (case a8 => k_is)
    (case l8 => k_is)
    (case c8 => k_is)
    (case k8 => k_is)
    (case a9 => k_is)
    (case l9 => k_is)
    (case c9 => k_is)
    (case k9 => k_is)
    (case a10 => k_is)
    (case l10 => k_is)
    (case c10 => k_is)
    (case k10 => k_is)
    (case a11 => k_is)
    (case l11 => k_is)
    (case c11 => k_is)
    (case k11 => k_is)
    (case a12 => k_is)
    (case l12 => k_is)
    (case c12 => k_is)
    (case k12 => k_is)
    (case a13 => k_is)
    (case l13 => k_is)
    (case c13 => k_is)
    (case k13 => k_is)
    (case a14 => k_is)
    (case l14 => k_is)
    (case c14 => k_is)
    (case k14 => k_is)
    (case a15 => k_is)
    (case l15 => k_is)
    (case c15 => k_is)
    (case k15 => k_is)
    (case a16 => k_is)
    (case l16 => k_is)
    (case c16 => k_is)
    (case k16 => k_is)
    (case a17 => k_is)
    (case l17 => k_is)
    (case c17 => k_is)
    (case k17 => k_is)
    (case a18 => k_is)
    (case l18 => k_is)
    (case c18 => k_is)
    (case k18 => k_is)
    (case a19 => k_is)
    (case l19 => k_is)
    (case c19 => k_is)
    (case k19 => k_is)
    (case a20 => k_is)
    (case l20 => k_is)
    (case c20 => k_is)
    (case k20 => k_is)
    (case a21 => k_is)
    (case l21 => k_is)
    (case c21 => k_is)
    (case k21 => k_is)
    (case a22 => k_is)
    (case l22 => k_is)
    (case c22 => k_is)
    (case k22 => k_is)
    (case a23 => k_is)
    (case l23 => k_is)
    (case c23 => k_is)
    (case k23 => k_is)
    (case a24 => k_is)
    (case l24 => k_is)
    (case c24 => k_is)
    (case k24 => k_is)
    (case a25 => k_is)
    (case l25 => k_is)
    (case c25 => k_is)
    (case k25 => k_is)
    (case a26 => k_is)
    (case l26 => k_is)
    (case c26 => k_is)
    (case k26 => k_is)
    (case a27 => k_is)
    (case l27 => k_is)
    (case c27 => k_is)
    (case k27 => k_is)
    (case a28 => k_is)
    (case l28 => k_is)
    (case c28 => k_is)
    (case k28 => k_is)
    (case a29 => k_is)
    (case l29 => k_is)
    (case c29 => k_is)
    (case k29 => k_is)
    (case a30 => k_is)
    (case l30 => k_is)
    (case c30 => k_is)
    (case k30 => k_is)
    (case a31 => k_is)
    (case l31 => k_is)
    (case c31 => k_is)
    (case k31 => k_is)
    (case a32 => k_is)
    (case l32 => k_is)
    (case c32 => k_is)
    (case k32 => k_is)
    (case a33 => k_is)
    (case l33 => k_is)
    (case c33 => k_is)
    (case k33 => k_is)
    (case a34 => k_is)
    (case l34 => k_is)
    (case c34 => k_is)
    (case k34 => k_is)
    (case a35 => k_is)
    (case l35 => k_is)
    (case c35 => k_is)
    (case k35 => k_is)
    (case a36 => k_is)
    (case l36 => k_is)
    (case c36 => k_is)
    (case k36 => k_is)
    (case a37 => k_is)
    (case l37 => k_is)
    (case c37 => k_is)
    (case k37 => k_is)
    (case a38 => k_is)
    (case l38 => k_is)
    (case c38 => k_is)
    (case k38 => k_is)
    (case a39 => k_is)
    (case l39 => k_is)
    (case c39 => k_is)
    (case k39 => k_is)
    (case a40 => k_is)
    (case l40 => k_is)
    (case c40 => k_is)
    (case k40 => k_is)
    (case a41 => k_is)
    (case l41 => k_is)
    (case c41 => k_is)
    (case k41 => k_is)
    (case a42 => k_is)
    (case l42 => k_is)
    (case c42 => k_is)
    (case k42 => k_is)
    (case a43 => k_is)
    (case l43 => k_is)
    (case c43 => k_is)
    (case k43 => k_is)
    (case a44 => k_is)
    (case l44 => k_is)
    (case c44 => k_is)
    (case k44 => k_is)
    (case a45 => k_is)
    (case l45 => k_is)
    (case c45 => k_is)
    (case k45 => k_is)
    (case z_isinstance => k_is)
    (case z_len => k_is)
    (case z_str => k_is)
    (case z_int => k_is)
    (case z_bool => k_is)
    (case z_tuple => k_is)
    (case z_list => k_is)
    (case z_all => k_is)
    (case z_range => k_is)
    (case z_min => k_is)
    (case z_zip => k_is)
    (case z_enumerate => k_is)
    (case z_abs => k_is)
    (case z_sum => k_is)
    (case z_repr => k_is)
    (case v_MOST_BEATS => k_is)
    (case e_MOST_BEATS => decide +kernel)
    (case v_MOST_EDGE_LABELS => k_is)
    (case e_MOST_EDGE_LABELS => decide +kernel)
    (case v_MOST_LABELS => k_is)
    (case e_MOST_LABELS => decide +kernel)
    (case v_MOST_NETS => k_is)
    (case e_MOST_NETS => decide +kernel)
    (case v_MOST_PLACES => k_is)
    (case e_MOST_PLACES => decide +kernel)
    (case v_MOST_EDGES => k_is)
    (case e_MOST_EDGES => decide +kernel)
    (case sE => k_is)
    (case iE => k_is)
    (case tE => k_is)
    (case spO => k_is)
    (case tkO => k_is)
    (case kE1 => k_is)
    (case xE1 => k_exc)
    (case sBE1 => k_is)
    (case tE1 => k_is)
    (case sEE1 => k_is)
    (case gE1 => k_is)
    (case ggE1 => k_is)
    (case hdE1 => k_is)
    (case clE1 => k_is)
    (case mrE1 => k_is)
    (case kE2 => k_is)
    (case xE2 => k_exc)
    (case sBE2 => k_is)
    (case tE2 => k_is)
    (case sEE2 => k_is)
    (case gE2 => k_is)
    (case ggE2 => k_is)
    (case hdE2 => k_is)
    (case clE2 => k_is)
    (case mrE2 => k_is)
    (case kE3 => k_is)
    (case xE3 => k_exc)
    (case sBE3 => k_is)
    (case tE3 => k_is)
    (case sEE3 => k_is)
    (case gE3 => k_is)
    (case ggE3 => k_is)
    (case hdE3 => k_is)
    (case clE3 => k_is)
    (case mrE3 => k_is)
    (case kCED => k_is)
    (case pgCED => k_is)
    (case hdCED => k_is)
    (case poCED => k_is)
    (case saCED => k_is)
    (case mkCED => k_is)
    (case n0CED => k_is)
    (case n1CED => k_is)
    (case n2CED => k_is)
    (case n3CED => k_is)
    (case n4CED => k_is)
    (case n5CED => k_is)
    (case n6CED => k_is)
    (case n7CED => k_is)
    (case fn20 => k_is)
    (case fn21 => k_is)
    (case kCHT => k_is)
    (case pgCHT => k_is)
    (case hdCHT => k_is)
    (case poCHT => k_is)
    (case saCHT => k_is)
    (case mkCHT => k_is)
    (case n0CHT => k_is)
    (case n1CHT => k_is)
    (case n2CHT => k_is)
    (case n3CHT => k_is)
    (case n4CHT => k_is)
    (case n5CHT => k_is)
    (case n6CHT => k_is)
    (case n7CHT => k_is)
    (case n8CHT => k_is)
    (case n9CHT => k_is)
    (case n10CHT => k_is)
    (case fn22 => k_is)
    (case fn23 => k_is)
    (case fn24 => k_is)
    (case fn25 => k_is)
    (case fn26 => k_is)
    (case fn27 => k_is)
    (case neCHTCED => decide +kernel)
    (case hTT1 => exact hT8 _ (List.mem_cons_self ..))
    (case hdrT1 => kernel_rfl)
    (case npT1 => kernel_rfl)

