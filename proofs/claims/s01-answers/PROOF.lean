import PyProof.Rows.All
import Wide.All
import OpenK.AllK
import Wide.FinOn
import Open.SpecLaws
import KE.OsGo
import HandS.ForSpec
import HandS.ForMost
import HandS.Walk
import HandS.Evl
import HandS.CallLocal
import HandS.Conv
import PySem.Challenge.RW_jobtools_s01_answers
set_option Elab.async false
set_option linter.all false
set_option maxRecDepth 100000
set_option maxHeartbeats 2000000
/-! JBase: what the layer lacks: dicts of the top with int keys, a call through such a dict, more of Ev. -/
namespace J
open PySem PySem.Spec PyProof.Rows L2 Evl

/-! ### a dict of the program's top whose keys are ints -/
def EntOf (e : DictEntry) (u : Int × Value) : Prop := (∃ t, e.key = .int u.1 t) ∧ e.hash = hashInt u.1 ∧ e.val = u.2
def KTab (K : PySem.W.Frag) (d : Addr) (kvs : List (Int × V)) : Prop := (d == sysModules) = false ∧ (kvs.map (·.1)).Nodup ∧
  ∃ (es : Array DictEntry) (n : Nat) (us : List (Int × Value)), K.lookup d = some ⟨.type "dict", none, .dict es n, #[]⟩ ∧ KV kvs us ∧ Paired EntOf es.toList us
theorem kv_keys {κ : Type} : ∀ {kvs : List (κ × V)} {us : List (κ × Value)}, KV kvs us → kvs.map (·.1) = us.map (·.1)
  | _, _, .nil => rfl
  | _, _, .cons r t => by
    rw [List.map_cons, List.map_cons, r.1, kv_keys t]
theorem ents_pairs {P : Program} {w : World} : ∀ {es : List DictEntry} {us : List (Int × Value)}, Paired EntOf es us → Pairs (intKind P w) es us
  | _, _, .nil => .nil
  | _, _, .cons r t => .cons (by
      obtain ⟨⟨t, e⟩, _, _⟩ := r
      rw [e]
      exact intKind_is P w _ t) r.2.2 (ents_pairs t)
theorem ents_keys {P : Program} {w : World} : ∀ {es : List DictEntry} {us : List (Int × Value)}, Paired EntOf es us → ∀ e ∈ es, ∃ k, (intKind P w).is k e.key = true ∧ e.hash = (intKind P w).hash k
  | _, _, .nil, e, he => by simp at he
  | _, _, .cons (b := u) r t, e, he => by
    rcases List.mem_cons.mp he with rfl | he
    · obtain ⟨⟨t, e1⟩, e2, _⟩ := r
      exact ⟨u.1, by rw [e1]; exact intKind_is P w _ t, e2⟩
    · exact ents_keys t e he
theorem tab_dict {P : Program} {w : World} {K : PySem.W.Frag} {h : Heap} {d : Addr} {kvs : List (Int × V)} (X : K.In h) (T : KTab K d kvs) : ∃ us, KV kvs us ∧ h.DictOf (intKind P w) d us := by
  obtain ⟨_, nd, es, n, us, hl, kv, pr⟩ := T
  refine ⟨us, kv, _, es, n, X _ _ hl, ⟨rfl, rfl, rfl⟩, rfl, fun e he => ents_keys pr e (Array.mem_toList_iff.mpr he), ents_pairs pr, ?_⟩
  rw [← kv_keys kv]
  exact nd
section
variable {X : Cx}
def rTab (K : PySem.W.Frag) : R2 := fun x y H Q => ∃ d kvs k v, x = .ref d ∧ y = .int k ∧ KTab K d kvs ∧ valV kvs k = some v ∧ Q v H
theorem ix_tab : IxR X (rTab X.K) := by
  intro value slice pins s σ H x y v u Q I rx ry h hs
  obtain ⟨d, kvs, k, r, rfl, rfl, T, e, q⟩ := h
  obtain rfl : v = Value.ref d := rx
  obtain ⟨t, rfl⟩ := ry
  obtain ⟨us, kv, dd⟩ := tab_dict (P := X.prog) (w := X.w) I.kIn T
  obtain ⟨w', hw, rw'⟩ := RelO.some_of (v := r) (o := valueAt us k) (by rw [← e]; exact kv.val k)
  exact tail_any dd.mapOf.typeIs slot_dict_getitem.lookup (wpAny_getItem_of (intKind_is X.prog X.w k t) dd.mapOf hw ⟨r, H, I.tok _, rw', q⟩) hs
def rInTab (K : PySem.W.Frag) : R2 := fun x y H Q => ∃ d kvs k, x = .int k ∧ y = .ref d ∧ KTab K d kvs ∧ Q (.bl (valV kvs k).isSome) H
theorem op_in_tab : OpR X (compareOp .In) (rInTab X.K) := by
  intro pins s σ H x y v u Q I rx ry h
  obtain ⟨d, kvs, k, rfl, rfl, T, q⟩ := h
  obtain ⟨t, rfl⟩ := rx
  cases ry
  obtain ⟨us, kv, dd⟩ := tab_dict (P := X.prog) (w := X.w) I.kIn T
  refine wpAny_in_of (intKind_is X.prog X.w k t) T.1 dd.mapOf ?_
  rw [← (kv.val k).isSome_eq]
  exact ⟨.bl (valV kvs k).isSome, H, I.tok _, rfl, q⟩
/-! ### a call of what an expression gives: one of several defs -/
def tCallX (S : Addr → Sp → Prop) (tf : TE) (t : TA) : TE := fun σ H Q => tf σ H fun v H1 => ∃ f sp, v = .ref f ∧ S f sp ∧ t σ H1 fun vs H2 => sp vs H2 Q E0
theorem pe_callX {S : Addr → Sp → Prop} {k : Nat} {fn e : Expr} {es : List Expr} {pos : Pos} {tf : TE} {t : TA} (A : ∀ f sp, S f sp → ∃ j, j ≤ k ∧ Held X.prog X.w X.K X.mg X.base j f sp) (hr : Room k X.A) (hf : PE X fn tf) (ha : PA X (e :: es) t)
    (hev : eval (.Call fn (e :: es) [] pos) X.env = (do callWith pos (← eval fn X.env) [] (backTo pos (starEach (e :: es) X.env)) (backToKw pos (keywordEach [] X.env))) := by rfl)
    (he : starEach (e :: es) X.env = (false, eval e X.env) :: starEach es X.env := by rfl) (hpl : (backTo pos (starEach es X.env)).any (·.1) = false := by rfl) : PE X (.Call fn (e :: es) [] pos) (tCallX S tf t) := by
  refine ⟨fun pins s σ H Q I h => ?_⟩
  rw [hev]
  refine wpAny_bind (thn (hf.run pins s σ H _ I h) fun u s1 ⟨v, H1, I1, r1, f, sp, ev, hS, ht⟩ => ?_)
  subst ev
  cases r1
  obtain ⟨j, hj, hE⟩ := A f sp hS
  obtain ⟨fd, ps, F, hk, hb⟩ := hE.ex
  refine PySem.W.callWith_K (h₀ := X.base) I.ok.mod.kin hk (thn (ha.run pos pins s1 σ _ _ I1 ht) fun us s2 ⟨vs, H2, I2, r, q⟩ => ⟨I2.kIn, ?_⟩) he hpl
  refine run_fn (dvs := []) (E := E0) F (hr.mono hj) hb .nil (fun _ _ _ _ _ _ _ z => z.elim) I2 r ?_
  rw [List.append_nil]
  exact q
end

/-! ### more of Ev -/
section
variable {K : PySem.W.Frag} {σ : L2.St} {H H' : Hp} {ta tb te tx : TE} {t u : TT} {x y z v : V} {r : R2}
theorem ev_fld {a C dx : Addr} {fs : List (Str × V)} {f : Str} (h : Ev ta σ H (.ref a)) (ho : H a = some (.ins C dx fs)) (c : Cls K C) (n : NoAttr K C f) (l : fs.lookup f = some v) : Ev (tFld K ta f) σ H v := fun H1 e Q q =>
  h H1 e _ fun H2 e2 => ⟨a, C, dx, fs, v, rfl, (e.trans e2) _ _ ho, c, n, l, q H2 e2⟩
theorem rv_tab {d : Addr} {kvs : List (Int × V)} {k : Int} (T : KTab K d kvs) (e : valV kvs k = some v) : RV (rTab K) (.ref d) (.int k) H v := fun H1 _ _ q => ⟨d, kvs, k, v, rfl, rfl, T, e, q H1 (Ex.refl H1)⟩
theorem rv_inTab {d : Addr} {kvs : List (Int × V)} {k : Int} (T : KTab K d kvs) : RV (rInTab K) (.int k) (.ref d) H (.bl (valV kvs k).isSome) := fun H1 _ _ q => ⟨d, kvs, k, rfl, rfl, T, q H1 (Ex.refl H1)⟩
theorem ev_sumN {ns : List Int} (h : EvL te σ H (ns.map V.int)) : Ev (tCB (rSum K) (tCons te tNil)) σ H (.int ns.sum) := fun H1 e Q q =>
  h H1 e _ fun p H2 _ e2 hp => ⟨p, ns, rfl, sq_of hp, q H2 e2⟩
theorem ev_sumL {a : Addr} {ns : List Int} (h : Ev te σ H (.ref a)) (hs : SqL K H a (ns.map V.int)) : Ev (tCB (rSum K) (tCons te tNil)) σ H (.int ns.sum) := fun H1 e Q q =>
  h H1 e _ fun H2 e2 => ⟨a, ns, rfl, ex_l (e.trans e2) hs, q H2 e2⟩
theorem ev_maxL {a : Addr} {ns : List Int} {m : Int} (h : Ev te σ H (.ref a)) (hs : SqL K H a (ns.map V.int)) (hm : m ∈ ns) (hle : ∀ y, y ∈ ns → y ≤ m) : Ev (tCB (rMax K) (tCons te tNil)) σ H (.int m) := fun H1 e Q q =>
  h H1 e _ fun H2 e2 => ⟨a, ns, rfl, ex_l (e.trans e2) hs, List.length_pos_of_mem hm, fun m' h1 h2 => by
    have : m' = m := Int.le_antisymm (hle _ h1) (h2 _ hm)
    subst this
    exact q H2 e2⟩
theorem ev_maxN {ns : List Int} {m : Int} (h : EvL te σ H (ns.map V.int)) (hm : m ∈ ns) (hle : ∀ y, y ∈ ns → y ≤ m) : Ev (tCB (rMax K) (tCons te tNil)) σ H (.int m) := fun H1 e Q q =>
  h H1 e _ fun a H2 _ e2 hp => ⟨a, ns, rfl, sq_of hp, List.length_pos_of_mem hm, fun m' h1 h2 => by
    have : m' = m := Int.le_antisymm (hle _ h1) (h2 _ hm)
    subst this
    exact q H2 e2⟩
theorem ev_minL {a : Addr} {ns : List Int} {m : Int} (h : Ev te σ H (.ref a)) (hs : SqL K H a (ns.map V.int)) (hm : m ∈ ns) (hle : ∀ y, y ∈ ns → m ≤ y) : Ev (tCB (rMin K) (tCons te tNil)) σ H (.int m) := fun H1 e Q q =>
  h H1 e _ fun H2 e2 => ⟨a, ns, rfl, ex_l (e.trans e2) hs, List.length_pos_of_mem hm, fun m' h1 h2 => by
    have : m' = m := Int.le_antisymm (h2 _ hm) (hle _ h1)
    subst this
    exact q H2 e2⟩
theorem ev_minN {ns : List Int} {m : Int} (h : EvL te σ H (ns.map V.int)) (hm : m ∈ ns) (hle : ∀ y, y ∈ ns → m ≤ y) : Ev (tCB (rMin K) (tCons te tNil)) σ H (.int m) := fun H1 e Q q =>
  h H1 e _ fun a H2 _ e2 hp => ⟨a, ns, rfl, sq_of hp, List.length_pos_of_mem hm, fun m' h1 h2 => by
    have : m' = m := Int.le_antisymm (h2 _ hm) (hle _ h1)
    subst this
    exact q H2 e2⟩
/-- [..] + xs, xs a list that stands -/
theorem el_catN {b : Addr} {xs ys : List V} (ha : EvL ta σ H xs) (hb : Ev tb σ H (.ref b)) (hy : H b = some (.lst ys)) (hz : xs.length + ys.length ≤ 100000) : EvL (tOp rCat ta tb) σ H (xs ++ ys) := fun H1 e Q q =>
  ha H1 e _ fun p H2 _ e2 hp => hb H2 (e.trans e2) _ fun H3 e3 => ⟨p, b, xs, ys, rfl, rfl, e3 _ _ hp, ((e.trans e2).trans e3) _ _ hy, sz_of hz, fun l hl =>
    q l _ (fresh_back (e2.trans e3) hl) ((e2.trans e3).trans (Ex.new hl)) upd_same⟩
/-- xs + ys, both new -/
theorem el_catNN {xs ys : List V} (ha : EvL ta σ H xs) (hb : EvL tb σ H ys) (hz : xs.length + ys.length ≤ 100000) : EvL (tOp rCat ta tb) σ H (xs ++ ys) := fun H1 e Q q =>
  ha H1 e _ fun p H2 _ e2 hp => hb H2 (e.trans e2) _ fun b H3 _ e3 hb3 => ⟨p, b, xs, ys, rfl, rfl, e3 _ _ hp, hb3, sz_of hz, fun l hl =>
    q l _ (fresh_back (e2.trans e3) hl) ((e2.trans e3).trans (Ex.new hl)) upd_same⟩
/-- list(range(n)) -/
theorem el_listRg {n : Nat} (h : Ev ta σ H (.int (n : Int))) (hn : n ≤ 100000) : EvL (tLstRg (tRg1 ta)) σ H ((List.range n).map fun (i : Nat) => V.int (i : Int)) := fun H1 e Q q =>
  h H1 e _ fun H2 e2 => ⟨(n : Int), rfl, RgOk.of_le (by omega) (by omega) (by omega) (by omega), fun p hp => q p _ (fresh_back e2 hp) (e2.trans (Ex.new hp)) (by
    rw [upd_same]
    refine congrArg (fun l => some (HO.lst l)) ?_
    unfold rgV
    rw [show ((n : Int) - 0).toNat = n by omega]
    refine List.map_congr_left fun i _ => ?_
    rw [Int.zero_add])⟩
/-- d[k] of a dict of ints and texts, there -/
theorem ev_dget {a : Addr} {kvs : List (Key × V)} {k : Key} (h : Ev ta σ H (.ref a)) (hk : Ev tb σ H (kV k)) (hd : Rd H a (.dK kvs)) (e : valV kvs k = some v) : Ev (tDGet ta tb) σ H v := fun H1 e1 Q q =>
  h H1 e1 _ fun H2 e2 => hk H2 (e1.trans e2) _ fun H3 e3 => ⟨a, v, rfl, .inl ⟨kvs, k, ex_rd ((e1.trans e2).trans e3) hd, rfl, e.symm⟩, q H3 (e2.trans e3)⟩
theorem ev_din {a : Addr} {kvs : List (Key × V)} {k : Key} (hk : Ev ta σ H (kV k)) (h : Ev tb σ H (.ref a)) (hd : Rd H a (.dK kvs)) : Ev (tDIn ta tb) σ H (.bl (valV kvs k).isSome) := fun H1 e1 Q q =>
  hk H1 e1 _ fun H2 e2 => h H2 (e1.trans e2) _ fun H3 e3 => ⟨a, _, rfl, .inl ⟨kvs, k, ex_rd ((e1.trans e2).trans e3) hd, rfl, rfl⟩, q H3 (e2.trans e3)⟩
theorem ev_dnotin {a : Addr} {kvs : List (Key × V)} {k : Key} (hk : Ev ta σ H (kV k)) (h : Ev tb σ H (.ref a)) (hd : Rd H a (.dK kvs)) : Ev (tDNotIn ta tb) σ H (.bl (!(valV kvs k).isSome)) := fun H1 e1 Q q =>
  hk H1 e1 _ fun H2 e2 => h H2 (e1.trans e2) _ fun H3 e3 => ⟨a, _, rfl, .inl ⟨kvs, k, ex_rd ((e1.trans e2).trans e3) hd, rfl, rfl⟩, q H3 (e2.trans e3)⟩
def rLenD : List V → Hp → VK → Prop := fun xs H Q => ∃ a kvs, xs = [V.ref a] ∧ H a = some (.dK kvs) ∧ Q (.int kvs.length) H
theorem ev_lenD {a : Addr} {kvs : List (Key × V)} (h : Ev ta σ H (.ref a)) (hd : H a = some (.dK kvs)) : Ev (tCB rLenD (tCons ta tNil)) σ H (.int (kvs.length : Int)) := fun H1 e Q q =>
  h H1 e _ fun H2 e2 => ⟨a, kvs, rfl, (e.trans e2) _ _ hd, q H2 e2⟩
theorem el_is {xs ys : List V} (h : EvL te σ H xs) (e : xs = ys) : EvL te σ H ys := by
  rw [← e]
  exact h
/-! comprehensions by any walk that leaves the heap but for new things -/
theorem el_lcW {J : It} {n : Nat} {G : Hp → Prop} {Y : Nat → Hp → V → Hp → Prop} {g : TG} {vs : List Nat} {H1 : Hp} {Q : VK} {Dl : Addr} (w : Walk J n G Y) (f : Nat → Bool) (va : Nat → V) (σ2 : Nat → L2.St) (hn : n ≤ 40000) (hD : H1 Dl = none)
    (hG : ∀ H2, Ex H1 H2 → G H2)
    (hg : ∀ i x H2 H3, i < n → Ex H1 H2 → Y i H2 x H3 → ∀ R : L2.St → Hp → Prop, (Ex H2 H3 → R (σ2 i) H3) → g x (wipe σ vs) H3 R)
    (hw : ∀ i, i < n → wipe (σ2 i) vs = wipe σ vs)
    (ht : ∀ (i : Nat) H2, i < n → Ex H1 H2 → EvT t (σ2 i) H2 (f i)) (he : ∀ (i : Nat) H2, i < n → Ex H1 H2 → f i = true → Ev te (σ2 i) H2 (va i))
    (q : ∀ H2, Ex H1 H2 → H2 Dl = some (.lst (given n f va)) → Q (.ref Dl) H2) :
    ∃ W : Nat → Nat → Hp → Prop, (∃ m, W 0 m (upd H1 Dl (.lst []))) ∧ ∀ i m H, W i m H →
      (J.stop i H ∧ Q (.ref Dl) H) ∨ (J.go i H ∧ ∃ Nx : Hp → Prop, (∀ H', Nx H' → ∃ m', m' < m ∧ W (i + 1) m' H') ∧ ∀ x H', J.yld i H x H' → g x (wipe σ vs) H' fun σ2 H2 => wipe σ2 vs = wipe σ vs ∧ t σ2 H2 fun b H3 =>
        if b = true then te σ2 H3 fun y H4 => ∃ acc, H4 Dl = some (.lst acc) ∧ acc.length < sizeLine ∧ Nx (upd H4 Dl (.lst (acc ++ [y]))) else Nx H3) :=
  lc_it w (Cw H1 f va Dl) ⟨hD, Ex.new hD, upd_same⟩ (fun i H2 _ p => hG H2 p.2.1)
    (fun i x H2 H3 hi p y => hg i x H2 H3 hi p.2.1 y _ fun e3 =>
      ⟨hw i hi, cw_turn ⟨p.1, p.2.1.trans e3, e3 _ _ p.2.2⟩ (by omega) (ht i H1 hi (Ex.refl H1)) (fun hf => he i H1 hi (Ex.refl H1) hf)⟩) (fun H2 p => q H2 p.2.1 p.2.2)
/-- for i, x in enumerate(xs), xs a list that stands -/
theorem el_lcE {a : Addr} {xs : List V} {tl : TE} {j k : Nat} {vs : List Nat} (f : Nat → Bool) (va : Nat → V) (h : Ev tl σ H (.ref a)) (hx : SqL K H a xs) (hz : xs.length ≤ 40000)
    (hw : ∀ x y, wipe (((wipe σ vs).set j (some x)).set k (some y)) vs = wipe σ vs)
    (ht : ∀ (i : Nat) (x : V) H1, Ex H H1 → xs[i]? = some x → EvT t (((wipe σ vs).set j (some (.int (i : Int)))).set k (some x)) H1 (f i))
    (he : ∀ (i : Nat) (x : V) H1, Ex H H1 → xs[i]? = some x → f i = true → Ev te (((wipe σ vs).set j (some (.int (i : Int)))).set k (some x)) H1 (va i)) :
    EvL (tLc (iEnum K (tCons tl tNil)) (gTup K 2 (gCons (gName j) (gCons (gName k) gNil))) t te vs) σ H (given xs.length f va) := fun H0 e Q q => h H0 e _ fun H1 e1 => ⟨a, xs, rfl, ex_l (e.trans e1) hx, fun Dl hD =>
  el_lcW (σ2 := fun i => ((wipe σ vs).set j (some (.int (i : Int)))).set k xs[i]?) walk_enum f va hz hD (fun H2 e2 => ex_l ((e.trans e1).trans e2) hx)
    (fun i x H2 H3 hi e2 y R hR => by
      obtain ⟨T, x1, x2, rfl, hT, rfl, h1, h2⟩ := y
      have hE : Ex H2 (upd H2 T (.tup [x1, x2])) := Ex.new hT
      have r := hR hE
      cases Option.some.inj h1
      refine ⟨T, [_, x2], rfl, st_of upd_same, rfl, _, _, rfl, _, _, rfl, rfl, ?_⟩
      have h2 : xs[i]? = some x2 := h2
      rw [h2] at r
      exact r)
    (fun i hi => by
      obtain ⟨x2, h2⟩ : ∃ x2, xs[i]? = some x2 := ⟨xs[i], by simp [hi]⟩
      rw [h2]
      exact hw _ _)
    (fun i H2 hi e2 => by
      obtain ⟨x2, h2⟩ : ∃ x2, xs[i]? = some x2 := ⟨xs[i], by simp [hi]⟩
      have r := ht i x2 H2 ((e.trans e1).trans e2) h2
      rw [← h2] at r
      exact r)
    (fun i H2 hi e2 hf => by
      obtain ⟨x2, h2⟩ : ∃ x2, xs[i]? = some x2 := ⟨xs[i], by simp [hi]⟩
      have r := he i x2 H2 ((e.trans e1).trans e2) h2 hf
      rw [← h2] at r
      exact r)
    (fun H2 e2 h2 => q Dl H2 (fresh_back e1 hD) (e1.trans e2) h2)⟩
/-- for k in d, the dict locked meanwhile -/
theorem el_lcK {d : Addr} {kvs : List (Key × V)} {td : TE} {j : Nat} {vs : List Nat} (f : Nat → Bool) (va : Nat → V) (hz : kvs.length ≤ 40000) (hd : H d = some (.dK kvs))
    (h : ∀ H1, Ev td σ H1 (.ref d))
    (hw : ∀ x, wipe ((wipe σ vs).set j (some x)) vs = wipe σ vs)
    (ht : ∀ (i : Nat) (q : Key × V) od H1, Ex (upd H d (.frz od (.dK kvs))) H1 → kvs[i]? = some q → EvT t ((wipe σ vs).set j (some (kV q.1))) H1 (f i))
    (he : ∀ (i : Nat) (q : Key × V) od H1, Ex (upd H d (.frz od (.dK kvs))) H1 → kvs[i]? = some q → f i = true → Ev te ((wipe σ vs).set j (some (kV q.1))) H1 (va i)) :
    EvL (tLockE (tLc (iKeys td) (gName j) t te vs)) σ H (given kvs.length f va) := fun H0 e Q q => ⟨d, .dK kvs, e _ _ hd, trivial, fun od => by
  have e0 : Ex (upd H d (.frz od (.dK kvs))) (upd H0 d (.frz od (.dK kvs))) := fun b o hb => by
    by_cases hbd : b = d
    · subst hbd
      rw [upd_same] at hb ⊢
      exact hb
    · rw [upd_ne hbd] at hb ⊢
      exact e _ _ hb
  refine h _ _ (Ex.refl _) _ fun H1 e1 => ⟨d, od, rfl, .inl ⟨kvs, e1 _ _ upd_same, fun Dl hD => ?_⟩⟩
  have hDd : Dl ≠ d := fun z => by
    subst z
    rw [e1 _ _ upd_same] at hD
    cases hD
  refine el_lcW (g := gName j) (vs := vs) (σ := σ) (Q := fun v H' => H' d = some (.frz od (.dK kvs)) ∧ Q v (upd H' d (.dK kvs))) (σ2 := fun i => (wipe σ vs).set j (kvs[i]?.map fun q => kV q.1)) walk_keys f va hz hD (fun H2 e2 => e2 _ _ (e1 _ _ upd_same))
    (fun i x H2 H3 hi e2 y R hR => by
      obtain ⟨rfl, k, v, h2, rfl⟩ := y
      have r := hR (Ex.refl _)
      rw [h2] at r
      exact r)
    (fun i hi => by
      obtain ⟨x2, h2⟩ : ∃ x2, kvs[i]? = some x2 := ⟨kvs[i], by simp [hi]⟩
      rw [h2]
      exact hw _)
    (fun i H2 hi e2 => by
      obtain ⟨x2, h2⟩ : ∃ x2, kvs[i]? = some x2 := ⟨kvs[i], by simp [hi]⟩
      have r := ht i x2 od H2 ((e0.trans e1).trans e2) h2
      rw [h2]
      exact r)
    (fun i H2 hi e2 hf => by
      obtain ⟨x2, h2⟩ : ∃ x2, kvs[i]? = some x2 := ⟨kvs[i], by simp [hi]⟩
      have r := he i x2 od H2 ((e0.trans e1).trans e2) h2 hf
      rw [h2]
      exact r)
    (fun H2 e2 h2 => ⟨e2 _ _ (e1 _ _ upd_same), q Dl _ ?_ ?_ ?_⟩)
  · have z := fresh_back e1 hD
    rw [upd_ne hDd] at z
    exact z
  · intro b o hb
    by_cases hbd : b = d
    · subst hbd
      rw [upd_same, ← hb]
      exact (e _ _ hd).symm
    · rw [upd_ne hbd]
      exact e2 _ _ (e1 _ _ (by rw [upd_ne hbd]; exact hb))
  · rw [upd_ne hDd]
    exact h2⟩
end
/-- the state behind an instance's store, and what else stands -/
def ExBut (a : Addr) (H H' : Hp) : Prop := ∀ b o, b ≠ a → H b = some o → H' b = some o

/-! ### defs of the top, by name -/
structure DefAt (K : PySem.W.Frag) (mg : Str → Option Value) (x : Str) (st : Stmt) (ps : List Str) : Prop where
  ex : ∃ (f : Addr) (fd : FuncData), Fun K x x st f fd ∧ mg x = some (.ref f) ∧ Binds K fd ps []
/-- a def of the top keeps the promise sp -/
structure Cal (P : Program) (w : World) (K : PySem.W.Frag) (mg : Str → Option Value) (base : Heap) (k : Nat) (x : Str) (sp : Sp) : Prop where
  ex : ∃ (f : Addr) (fd : FuncData) (ps : List Str), FnOk P w K mg base CX0 k f fd ps sp ∧ mg x = some (.ref f) ∧ PySem.W.keepIn K (.ref f) = true ∧ Binds K fd ps []
section
variable {P : Program} {w : World} {K : PySem.W.Frag} {mg : Str → Option Value} {base : Heap}
theorem def_at {h : Heap} {x : Str} {st : Stmt} {ps : List Str} {f : Addr} {oc : Value} {od an : Option Addr} {osl : Array (Option Value)} {kV doc pm cdv ct : Value} (X : K.In h) (G : h.Ns mainGlobals mg)
    (hb : ∀ (kV doc pm : Value) (an : Option Addr) (cdv ct : Value) (us : List Value), us.length = ps.length → bindArgs (PySem.W.fnOf x x (defArgs st) (defBody st) (defScope st) .none kV doc pm an cdv ct) ⟨us, []⟩ = pure (ps.zip us))
    (a : PySem.W.nsIn K mainGlobals x = some (some (.ref f)))
    (l : K.lookup f = some ⟨oc, od, .func (PySem.W.fnOf x x (defArgs st) (defBody st) (defScope st) .none kV doc pm an cdv ct), osl⟩) (c : PySem.W.codeIn K cdv x = true) (k : PySem.W.keepIn K (.ref f) = true) : DefAt K mg x st ps :=
  ⟨f, _, fun_mk l c k, PySem.W.mg_of X G a, (fun_mk (x := x) (qual := x) (st := st) l c k).binds hb⟩
theorem DefAt.cal {x : Str} {st : Stmt} {N ps : List Str} {k : Nat} {sp : Sp} (F : DefAt K mg x st ps) (S : FnScope N ps (defScope st)) (len : ∀ vs H Q E, sp vs H Q E → vs.length = ps.length)
    (hbody : ∀ (f : Addr) (cdv : Value) (A : Around) (outer : List Env) (s : Shared) (H : Hp) (vs : List V) (Q : VK) (E : XK), Room k (A.deeper (envOfC x (defScope st) s.heap.objs.size f cdv)) → sp vs H Q E →
      ∃ t, PSs (cxOf CX0 P w K mg base N x (defScope st) f cdv A outer s H E).nox (defBody st) t ∧ t { nx := fun _ H' => Q .non H', rt := Q } (start N vs) H) : Cal P w K mg base (k + 1) x sp := by
  obtain ⟨f, fd, Fu, hm, b⟩ := F.ex
  exact ⟨f, fd, ps, Fu.ok S len (hbody f), hm, Fu.kp, b⟩
theorem Cal.held {k : Nat} {x : Str} {sp : Sp} {f : Addr} (c : Cal P w K mg base k x sp) (e : mg x = some (.ref f)) : Held P w K mg base k f sp := by
  obtain ⟨f', fd, ps, F, hm, kp, b⟩ := c.ex
  rw [e] at hm
  cases hm
  exact ⟨fd, ps, F, kp, b⟩
end
section
variable {X : Cx} {k j : Nat} {x : Str} {sp : Sp} {p pos : Pos} {e : Expr} {es : List Expr} {t : TA}
theorem pe_c (c : Cal X.prog X.w X.K X.mg X.base k x sp) (hr : Room j X.A) (hk : k ≤ j) (hg : Gl X x) (ha : PA X (e :: es) t)
    (hdb : (x == ("__debug__" : Str)) = false := by decide) (he : starEach (e :: es) X.env = (false, eval e X.env) :: starEach es X.env := by rfl) (hpl : (backTo pos (starEach es X.env)).any (·.1) = false := by rfl) :
    PE X (.Call (.Name x p) (e :: es) [] pos) (tCall sp [] E0 t) := by
  obtain ⟨f, fd, ps, F, hm, kp, b⟩ := c.ex
  exact pe_call F (hr.mono hk) hg hm kp b .nil pass0 ha hdb he hpl
end
/-! ### stores: all but one object stands -/
def ExA (a : Addr) (H H' : Hp) : Prop := ∀ b o, b ≠ a → H b = some o → H' b = some o
theorem ExA.of {a : Addr} {H H' : Hp} (e : Ex H H') : ExA a H H' := fun b o _ h => e b o h
theorem ExA.trans {a : Addr} {H H1 H2 : Hp} (x : ExA a H H1) (y : ExA a H1 H2) : ExA a H H2 := fun b o n h => y b o n (x b o n h)
theorem ExA.put {a : Addr} {H : Hp} {o : HO} : ExA a H (upd H a o) := fun b u n h => by
  rw [upd_ne n]
  exact h
section
variable {K : PySem.W.Frag} {σ : L2.St} {H H' : Hp} {ta tb te tv td ty : TE} {t u : TT} {x y z v : V} {D : Ends} {tz : TS}
theorem et_orT (h : EvT t σ H true) : EvT (tOr t u) σ H true := et_or (b := true) h fun z => Bool.noConfusion z
theorem et_orF {b : Bool} (h : EvT t σ H false) (h2 : EvT u σ H b) : EvT (tOr t u) σ H b := et_or h fun _ => h2
theorem s_fld {a C dx : Addr} {fs : List (Str × V)} {f : Str} (hv : Ev tv σ H y) (ha : Ev ta σ H (.ref a)) (ho : H a = some (.ins C dx fs)) (c : Cls K C) (n : NoAttr K C f) (hl : fs.length < 1000)
    (k : ∀ H1, Ex H H1 → D.nx σ (upd H1 a (.ins C dx (putF f y fs)))) : sFld K ta tv f D σ H := hv H (Ex.refl H) _ fun H1 e1 => ha H1 e1 _ fun H2 e2 => ⟨a, C, dx, fs, rfl, (e1.trans e2) _ _ ho, c, n, hl, k H2 (e1.trans e2)⟩
theorem s_fldL {a C dx : Addr} {fs : List (Str × V)} {f : Str} {xs : List V} (hv : EvL tv σ H xs) (ha : Ev ta σ H (.ref a)) (ho : H a = some (.ins C dx fs)) (c : Cls K C) (n : NoAttr K C f) (hl : fs.length < 1000)
    (k : ∀ p H1, H p = none → Ex H H1 → H1 p = some (.lst xs) → D.nx σ (upd H1 a (.ins C dx (putF f (.ref p) fs)))) : sFld K ta tv f D σ H :=
  hv H (Ex.refl H) _ fun p H1 hp e1 h1 => ha H1 e1 _ fun H2 e2 => ⟨a, C, dx, fs, rfl, (e1.trans e2) _ _ ho, c, n, hl, k p H2 hp (e1.trans e2) (e2 _ _ h1)⟩
theorem s_fldD {a C dx : Addr} {fs : List (Str × V)} {f : Str} (ha : Ev ta σ H (.ref a)) (ho : H a = some (.ins C dx fs)) (c : Cls K C) (n : NoAttr K C f) (hl : fs.length < 1000)
    (k : ∀ p H1, H p = none → Ex H H1 → H1 p = some (.dK []) → D.nx σ (upd H1 a (.ins C dx (putF f (.ref p) fs)))) : sFld K ta tDNewK f D σ H :=
  fun p hp => ha (upd H p (.dK [])) (Ex.new hp) _ fun H2 e2 => ⟨a, C, dx, fs, rfl, ((Ex.new hp).trans e2) _ _ ho, c, n, hl, k p H2 hp ((Ex.new hp).trans e2) (e2 _ _ upd_same)⟩
theorem q_fld {a C dx : Addr} {fs : List (Str × V)} {f : Str} (hv : Ev tv σ H y) (ha : Ev ta σ H (.ref a)) (ho : H a = some (.ins C dx fs)) (c : Cls K C) (n : NoAttr K C f) (hl : fs.length < 1000)
    (k : ∀ H1, Ex H H1 → tz D σ (upd H1 a (.ins C dx (putF f y fs)))) : tSeq (sFld K ta tv f) tz D σ H := s_fld (D := { D with nx := tz D }) hv ha ho c n hl k
theorem q_fldL {a C dx : Addr} {fs : List (Str × V)} {f : Str} {xs : List V} (hv : EvL tv σ H xs) (ha : Ev ta σ H (.ref a)) (ho : H a = some (.ins C dx fs)) (c : Cls K C) (n : NoAttr K C f) (hl : fs.length < 1000)
    (k : ∀ p H1, H p = none → Ex H H1 → H1 p = some (.lst xs) → tz D σ (upd H1 a (.ins C dx (putF f (.ref p) fs)))) : tSeq (sFld K ta tv f) tz D σ H := s_fldL (D := { D with nx := tz D }) hv ha ho c n hl k
theorem q_fldD {a C dx : Addr} {fs : List (Str × V)} {f : Str} (ha : Ev ta σ H (.ref a)) (ho : H a = some (.ins C dx fs)) (c : Cls K C) (n : NoAttr K C f) (hl : fs.length < 1000)
    (k : ∀ p H1, H p = none → Ex H H1 → H1 p = some (.dK []) → tz D σ (upd H1 a (.ins C dx (putF f (.ref p) fs)))) : tSeq (sFld K ta tDNewK f) tz D σ H := s_fldD (D := { D with nx := tz D }) ha ho c n hl k
/-- d[k] = (.., ..): a new tuple -/
theorem q_dputU {d : Addr} {kvs : List (Key × V)} {k : Key} {xs : List V} (hv : EvU tv σ H xs) (hd : Ev td σ H (.ref d)) (hk : Ev ty σ H (kV k)) (ho : H d = some (.dK kvs)) (hl : kvs.length < 100000)
    (q : ∀ p H1, H p = none → Ex H H1 → H1 p = some (.tup xs) → tz D σ (upd H1 d (.dK (putK kvs k (.ref p))))) : tSeq (sDPut td ty tv) tz D σ H :=
  hv H (Ex.refl H) _ fun p H1 hp e1 h1 => hd H1 e1 _ fun H2 e2 => hk H2 (e1.trans e2) _ fun H3 e3 => ⟨d, _, rfl, DPut.k (k := k) (((e1.trans e2).trans e3) _ _ ho) (sz_lt hl), q p H3 hp ((e1.trans e2).trans e3) ((e2.trans e3) _ _ h1)⟩
/-- d.pop(k) for its own sake -/
theorem q_dpop {d : Addr} {kvs : List (Key × V)} {k : Key} (hd : Ev td σ H (.ref d)) (hk : Ev ty σ H (kV k)) (ho : H d = some (.dK kvs)) (hv : valV kvs k = some v)
    (q : ∀ H1, Ex H H1 → tz D σ (upd H1 d (.dK (dropK kvs k)))) : tSeq (tDrop (tDPop1 td ty)) tz D σ H :=
  hd H (Ex.refl H) _ fun H1 e1 => ⟨d, rfl, .inl ⟨kvs, Rd.of (e1 _ _ ho)⟩, hk H1 e1 _ fun H2 e2 => ⟨kvs, k, v, (e1.trans e2) _ _ ho, rfl, hv, q H2 (e1.trans e2)⟩⟩
/-- return f(..), f a def that changes things -/
theorem s_retCall {sp : Sp} {dvs vs : List V} {E : XK} {ta : TA} (h : EvA ta σ H vs) (k : ∀ H1, Ex H H1 → sp (vs ++ dvs) H1 D.rt E) : tRet (tCall sp dvs E ta) D σ H := h H (Ex.refl H) _ k
theorem q_asgCall {sp : Sp} {dvs vs : List V} {E : XK} {ta : TA} {i : Nat} (h : EvA ta σ H vs) (k : ∀ H1, Ex H H1 → sp (vs ++ dvs) H1 (fun v H2 => tz D (σ.set i (some v)) H2) E) : tSeq (tAsg (tCall sp dvs E ta) (gName i)) tz D σ H := h H (Ex.refl H) _ k
theorem lk_here {k : Str} {v : V} {r : List (Str × V)} : List.lookup k ((k, v) :: r) = some v := by
  have e : (k == k) = true := beq_self_eq_true k
  simp only [List.lookup, e]
theorem lk_past {k g : Str} {v : V} {r : List (Str × V)} (h : (k == g) = false) : List.lookup k ((g, v) :: r) = List.lookup k r := by
  simp only [List.lookup, h]
theorem put_here {f : Str} {v x : V} {r : List (Str × V)} : putF f v ((f, x) :: r) = (f, v) :: r := if_pos rfl
theorem put_past {f g : Str} {v x : V} {r : List (Str × V)} (h : ¬ g = f) : putF f v ((g, x) :: r) = (g, x) :: putF f v r := if_neg h
end
/-- a constant of the top -/
def Cst (mg : Str → Option Value) (x : Str) (v : V) : Prop := ∃ u, mg x = some u ∧ RelV v u
theorem pe_gc {X : Cx} {x : Str} {pos : Pos} {v : V} (h : Cst X.mg x v) (hg : Gl X x) (hdb : (x == ("__debug__" : Str)) = false := by decide) : PE X (.Name x pos) (tC v) := by
  obtain ⟨u, h1, h2⟩ := h
  exact pe_glob hg h1 h2 hdb
theorem cst_int {K : PySem.W.Frag} {h : Heap} {mg : Str → Option Value} {x : Str} {i : Int} {t : Tok} (X : K.In h) (G : h.Ns mainGlobals mg) (a : PySem.W.nsIn K mainGlobals x = some (some (.int i t))) : Cst mg x (.int i) := ⟨_, PySem.W.mg_of X G a, ⟨t, rfl⟩⟩
theorem cst_ref {K : PySem.W.Frag} {h : Heap} {mg : Str → Option Value} {x : Str} {d : Addr} (X : K.In h) (G : h.Ns mainGlobals mg) (a : PySem.W.nsIn K mainGlobals x = some (some (.ref d))) : Cst mg x (.ref d) := ⟨_, PySem.W.mg_of X G a, rfl⟩
def EntV (e : DictEntry) (kv : Int × V) : Prop := (∃ t, e.key = .int kv.1 t) ∧ e.hash = hashInt kv.1 ∧ RelV kv.2 e.val
theorem entv_us : ∀ {es : List DictEntry} {kvs : List (Int × V)}, Paired EntV es kvs → ∃ us : List (Int × Value), KV kvs us ∧ Paired EntOf es us
  | _, _, .nil => ⟨[], .nil, .nil⟩
  | _, _, .cons (a := e) (b := kv) r t => by
    obtain ⟨us, h1, h2⟩ := entv_us t
    exact ⟨(kv.1, e.val) :: us, .cons ⟨rfl, r.2.2⟩ h1, .cons ⟨r.1, r.2.1, rfl⟩ h2⟩
theorem tab_at {K : PySem.W.Frag} {d : Addr} {kvs : List (Int × V)} {es : Array DictEntry} {n : Nat} (l : K.lookup d = some ⟨.type "dict", none, .dict es n, #[]⟩) (low : (d == sysModules) = false) (nd : (kvs.map (·.1)).Nodup) (pr : Paired EntV es.toList kvs) : KTab K d kvs := by
  obtain ⟨us, h1, h2⟩ := entv_us pr
  exact ⟨low, nd, es, n, us, l, h1, h2⟩
end J
/-! JMath: the specification's words in forms that the program's text computes. Plain Lean. -/
namespace JM
open Dr05 (Shop Job)
/-! ### sums -/
theorem foldr_sum : ∀ l : List Nat, l.foldr (fun a n => a + n) 0 = l.sum
  | [] => rfl
  | a :: l => by
    rw [List.foldr_cons, foldr_sum l, List.sum_cons]
theorem sum_ifs {α : Type} (f : α → Bool) (g : α → Nat) : ∀ l : List α, (l.map fun x => if f x = true then g x else 0).sum = ((l.filter f).map g).sum
  | [] => rfl
  | a :: l => by
    rw [List.map_cons, List.sum_cons, sum_ifs f g l, List.filter_cons]
    cases h : f a with
    | true => rw [if_pos rfl, if_pos rfl, List.map_cons, List.sum_cons]
    | false => rw [if_neg Bool.false_ne_true, if_neg Bool.false_ne_true, Nat.zero_add]
theorem sum_cast : ∀ l : List Nat, ((l.map fun (n : Nat) => (n : Int)).sum) = ((l.sum : Nat) : Int)
  | [] => rfl
  | a :: l => by
    rw [List.map_cons, List.sum_cons, sum_cast l, List.sum_cons, Int.natCast_add]
/-- whether place i is in the set t -/
def bit (t i : Nat) : Bool := t / 2 ^ i % 2 == 1
def costL (cs : List Nat) (t : Nat) : Nat := (((List.range cs.length).filter (bit t)).map fun i => cs.getD i 0).sum
theorem cost_eq (s : Shop) (t : Nat) : Dr05.cost s t = costL s.costs t := by
  unfold Dr05.cost Dr05.tools costL
  rw [foldr_sum, List.map_map, ← sum_ifs]
  rfl
def doneB (t : Nat) (j : Job) : Bool := t &&& j.needs == j.needs
theorem done_eq (s : Shop) (t : Nat) : Dr05.done s t = s.jobs.filter (doneB t) := by
  unfold Dr05.done
  refine congrArg (fun f => s.jobs.filter f) (funext fun j => ?_)
  show (Nat.land j.needs t == j.needs) = (t &&& j.needs == j.needs)
  have e : Nat.land j.needs t = t &&& j.needs := Nat.and_comm j.needs t
  rw [e]
def payL (js : List Job) (t : Nat) : Nat := ((js.filter (doneB t)).map fun j => j.pay).sum
theorem pay_eq (s : Shop) (t : Nat) : Dr05.pay s t = payL s.jobs t := by
  unfold Dr05.pay payL
  rw [foldr_sum, done_eq]
def left (s : Shop) (t : Nat) : Int := (payL s.jobs t : Int) - (costL s.costs t : Int)
theorem gain_eq (s : Shop) (t : Nat) : Dr05.gain s 1 1 t = left s t := by
  unfold Dr05.gain left
  rw [pay_eq, cost_eq, Nat.one_mul, Nat.one_mul]
/-! ### the most of a list -/
theorem fold_max (g : Nat → Int) : ∀ (l : List Nat) (m : Int), (m ≤ l.foldl (fun m t => max m (g t)) m) ∧ (∀ t ∈ l, g t ≤ l.foldl (fun m t => max m (g t)) m) ∧
    (l.foldl (fun m t => max m (g t)) m = m ∨ ∃ t ∈ l, l.foldl (fun m t => max m (g t)) m = g t)
  | [], m => ⟨Int.le_refl m, fun _ h => by simp at h, Or.inl rfl⟩
  | a :: l, m => by
    obtain ⟨h1, h2, h3⟩ := fold_max g l (max m (g a))
    rw [List.foldl_cons]
    refine ⟨by omega, fun t ht => ?_, ?_⟩
    · rcases List.mem_cons.mp ht with rfl | ht
      · omega
      · exact h2 t ht
    · rcases h3 with h3 | ⟨t, ht, h3⟩
      · by_cases hc : m ≤ g a
        · exact Or.inr ⟨a, List.mem_cons_self, by omega⟩
        · exact Or.inl (by omega)
      · exact Or.inr ⟨t, List.mem_cons_of_mem _ ht, h3⟩
theorem most_is (s : Shop) (a b : Nat) {l : List Nat} (hl : l ≠ []) : (∃ t ∈ l, Dr05.most s a b l = Dr05.gain s a b t) ∧ ∀ t ∈ l, Dr05.gain s a b t ≤ Dr05.most s a b l := by
  obtain ⟨x, r, rfl⟩ : ∃ x r, l = x :: r := by
    cases l with
    | nil => exact absurd rfl hl
    | cons x r => exact ⟨x, r, rfl⟩
  obtain ⟨h1, h2, h3⟩ := fold_max (fun t => Dr05.gain s a b t) (x :: r) (Dr05.gain s a b x)
  refine ⟨?_, h2⟩
  rcases h3 with h3 | h3
  · exact ⟨x, List.mem_cons_self, h3⟩
  · exact h3
theorem sets_ne (s : Shop) : Dr05.sets s ≠ [] := by
  unfold Dr05.sets
  intro h
  have := congrArg List.length h
  rw [List.length_range] at this
  have hp : 0 < 2 ^ s.costs.length := Nat.two_pow_pos _
  simp at this
theorem best_ne (s : Shop) (a b : Nat) : Dr05.best s a b ≠ [] := by
  obtain ⟨⟨t, ht, e⟩, _⟩ := most_is s a b (sets_ne s)
  intro h
  have hm : t ∈ Dr05.best s a b := List.mem_filter.mpr ⟨ht, by rw [e]; exact beq_self_eq_true _⟩
  rw [h] at hm
  simp at hm
theorem best_lt {s : Shop} {a b t : Nat} (h : t ∈ Dr05.best s a b) : t < 2 ^ s.costs.length := List.mem_range.mp (List.mem_filter.mp h).1
theorem all_land {n x : Nat} (h : x < 2 ^ n) : Nat.land (2 ^ n - 1) x = x := by
  show (2 ^ n - 1) &&& x = x
  rw [Nat.and_comm, Nat.and_two_pow_sub_one_eq_mod, Nat.mod_eq_of_lt h]
theorem least_eq (s : Shop) (a b : Nat) {x : Nat} {r : List Nat} (e : Dr05.best s a b = x :: r) : Dr05.least s a b = (x :: r).foldl Nat.land x := by
  have hx : x < 2 ^ s.costs.length := best_lt (s := s) (a := a) (b := b) (by rw [e]; exact List.mem_cons_self)
  unfold Dr05.least Dr05.all
  rw [e, List.foldl_cons, List.foldl_cons]
  show r.foldl Dr01.meet (Nat.land (2 ^ s.costs.length - 1) x) = r.foldl Nat.land (Nat.land x x)
  have e2 : Nat.land x x = x := Nat.and_self x
  rw [all_land hx, e2]
  rfl
theorem greatest_eq (s : Shop) (a b : Nat) : Dr05.greatest s a b = (Dr05.best s a b).foldl Nat.lor 0 := rfl
/-! ### what stands always -/
structure WF (s : Shop) : Prop where
  c1 : 1 ≤ s.costs.length
  c5 : s.costs.length ≤ 5
  cle : ∀ c ∈ s.costs, c ≤ 1000
  j5 : s.jobs.length ≤ 5
  nd : (s.jobs.map fun j => j.num).Nodup
  lt : ∀ j ∈ s.jobs, j.num < s.next
  nx : 1 ≤ s.next
  pl : ∀ j ∈ s.jobs, j.pay ≤ 1000
  nl : ∀ j ∈ s.jobs, j.needs < 2 ^ s.costs.length
  n0 : ∀ j ∈ s.jobs, j.needs ≠ 0
/-- what the sets' worth needs -/
structure Sz (s : Shop) : Prop where
  c5 : s.costs.length ≤ 5
  j5 : s.jobs.length ≤ 5
  nd : (s.jobs.map fun j => j.num).Nodup
theorem WF.sz {s : Shop} (h : WF s) : Sz s := ⟨h.c5, h.j5, h.nd⟩
theorem wf_init : WF Dr05.init := ⟨by decide, by decide, by decide, by decide, by decide, by decide, by decide, by decide, by decide, by decide⟩
theorem wf_step {s : Shop} (h : WF s) (c : Dr05.Call) : WF (Dr05.step s c).1 := by
  cases c with
  | tools l =>
    unfold Dr05.step
    dsimp only
    split
    · exact h
    · rename_i hc
      simp only [not_or, Bool.not_eq_false, Nat.not_lt] at hc
      obtain ⟨h1, h2, h3⟩ := hc
      refine ⟨?_, h2, fun c hc => of_decide_eq_true (List.all_eq_true.mp h3 c hc), Nat.zero_le _, List.nodup_nil, fun j hj => by simp at hj, Nat.le_refl _, fun j hj => by simp at hj, fun j hj => by simp at hj, fun j hj => by simp at hj⟩
      cases l with
      | nil => simp at h1
      | cons a l => simp
  | job p t =>
    unfold Dr05.step
    dsimp only
    split
    · exact h
    · rename_i hc
      split
      · exact h
      · rename_i h5
        simp only [not_or, Bool.not_eq_false, Nat.not_lt] at hc
        obtain ⟨h1, h2, h3⟩ := hc
        have h2 := of_decide_eq_true h2
        refine ⟨h.c1, h.c5, h.cle, by simp; omega, ?_, fun j hj => ?_, by show 1 ≤ s.next + 1; omega, fun j hj => ?_, fun j hj => ?_, fun j hj => ?_⟩
        · show ((s.jobs ++ [(⟨s.next, p, t⟩ : Job)]).map fun j => j.num).Nodup
          rw [List.map_append, List.nodup_append]
          refine ⟨h.nd, by simp, fun a ha b hb => ?_⟩
          obtain ⟨j, hj, rfl⟩ := List.mem_map.mp ha
          have := h.lt j hj
          simp at hb
          omega
        all_goals rcases List.mem_append.mp hj with hj | hj
        · have := h.lt j hj; show j.num < s.next + 1; omega
        · simp at hj; subst hj; show s.next < s.next + 1; omega
        · exact h.pl j hj
        · simp at hj; subst hj; exact h1
        · exact h.nl j hj
        · simp at hj; subst hj; exact h2
        · exact h.n0 j hj
        · simp at hj; subst hj; exact h3
  | gone n =>
    unfold Dr05.step
    dsimp only
    split
    · exact h
    · refine ⟨h.c1, h.c5, h.cle, Nat.le_trans (List.length_filter_le _ _) h.j5, ?_, fun j hj => h.lt j (List.mem_filter.mp hj).1, h.nx, fun j hj => h.pl j (List.mem_filter.mp hj).1, fun j hj => h.nl j (List.mem_filter.mp hj).1, fun j hj => h.n0 j (List.mem_filter.mp hj).1⟩
      exact List.Nodup.sublist (List.Sublist.map _ List.filter_sublist) h.nd
  | pay n v =>
    unfold Dr05.step
    dsimp only
    split
    · exact h
    · rename_i hv
      split
      · exact h
      · have key : ∀ j' ∈ (s.jobs.map fun j => if j.num = n then { j with pay := v } else j), ∃ j ∈ s.jobs, j'.num = j.num ∧ j'.needs = j.needs ∧ (j'.pay = j.pay ∨ j'.pay = v) := by
          intro j' hj
          obtain ⟨j, hm, rfl⟩ := List.mem_map.mp hj
          refine ⟨j, hm, ?_⟩
          split <;> exact ⟨rfl, rfl, by first | exact Or.inl rfl | exact Or.inr rfl⟩
        refine ⟨h.c1, h.c5, h.cle, by rw [List.length_map]; exact h.j5, ?_, fun j hj => ?_, h.nx, fun j hj => ?_, fun j hj => ?_, fun j hj => ?_⟩
        · rw [List.map_map]
          have e : ((fun j : Job => j.num) ∘ fun j : Job => if j.num = n then { j with pay := v } else j) = fun j => j.num := by
            funext j
            show (if j.num = n then ({ j with pay := v } : Job) else j).num = j.num
            split <;> rfl
          rw [e]
          exact h.nd
        all_goals obtain ⟨k, hk, e1, e2, e3⟩ := key j hj
        · rw [e1]; exact h.lt k hk
        · rcases e3 with e3 | e3
          · rw [e3]; exact h.pl k hk
          · rw [e3]; omega
        · rw [e2]; exact h.nl k hk
        · rw [e2]; exact h.n0 k hk
  | cost i v =>
    unfold Dr05.step
    dsimp only
    split
    · exact h
    · rename_i hc
      simp only [not_or, Nat.not_lt] at hc
      refine ⟨by rw [List.length_set]; exact h.c1, by rw [List.length_set]; exact h.c5, fun c hcm => ?_, h.j5, h.nd, h.lt, h.nx, h.pl, fun j hj => by rw [List.length_set]; exact h.nl j hj, h.n0⟩
      rcases List.mem_or_eq_of_mem_set hcm with hcm | rfl
      · exact h.cle c hcm
      · exact hc.2
  | best => exact h
  | look t => exact h
  | times a b => exact h
  | steps => exact h
  | lacks n => exact h
  | spare i => exact h
  | money b => exact h
  | shares t => exact h
  | jobs => exact h
theorem nodup_inj : ∀ {js : List Job} {j k : Job}, (js.map fun j => j.num).Nodup → j ∈ js → k ∈ js → j.num = k.num → j = k
  | [], j, k, _, h, _, _ => by simp at h
  | x :: r, j, k, nd, hj, hk, e => by
    rw [List.map_cons, List.nodup_cons] at nd
    obtain ⟨n1, n2⟩ := nd
    rcases List.mem_cons.mp hj with hj | hj
    · rcases List.mem_cons.mp hk with hk | hk
      · rw [hj, hk]
      · exact absurd (List.mem_map.mpr ⟨k, hk, by rw [← e, hj]⟩) n1
    · rcases List.mem_cons.mp hk with hk | hk
      · exact absurd (List.mem_map.mpr ⟨j, hj, by rw [e, hk]⟩) n1
      · exact nodup_inj n2 hj hk e
theorem filter_no : ∀ {js : List Job} {n : Nat}, n ∉ (js.map fun j => j.num) → (js.filter fun j => j.num != n) = js
  | [], n, _ => rfl
  | x :: r, n, h => by
    rw [List.map_cons, List.mem_cons, not_or] at h
    rw [List.filter_cons, if_pos (by simpa using fun z => h.1 z.symm), filter_no h.2]
theorem drop_len : ∀ {js : List Job} {n : Nat}, (js.map fun j => j.num).Nodup → (js.find? fun j => j.num == n).isSome = true → (js.filter fun j => j.num != n).length = js.length - 1
  | [], n, _, h => by simp at h
  | x :: r, n, nd, h => by
    rw [List.map_cons, List.nodup_cons] at nd
    by_cases e : x.num = n
    · subst e
      rw [List.filter_cons, if_neg (by simp), filter_no nd.1]
      rfl
    · rw [List.find?_cons, beq_eq_false_iff_ne.mpr e] at h
      have ih := drop_len nd.2 h
      rw [List.filter_cons, if_pos (by simpa using e), List.length_cons, ih, List.length_cons]
      have : r ≠ [] := by
        intro z
        subst z
        simp at h
      have : 0 < r.length := List.length_pos_iff.mpr this
      omega
end JM
/-! JLatt: the least and the greatest of the sets worth having are worth having. Plain Lean. -/
namespace JM
open Dr05 (Shop Job)
theorem bit_test (t i : Nat) : bit t i = t.testBit i := by
  unfold bit
  rw [Nat.testBit_eq_decide_div_mod_eq]
  by_cases h : t / 2 ^ i % 2 = 1
  · rw [decide_eq_true h, h]
    rfl
  · rw [decide_eq_false h]
    exact beq_eq_false_iff_ne.mpr h
/-- the cost over some places -/
def cov (g : Nat → Nat) (l : List Nat) (t : Nat) : Nat := (l.map fun i => if t.testBit i = true then g i else 0).sum
theorem cost_cov (cs : List Nat) (t : Nat) : costL cs t = cov (fun i => cs.getD i 0) (List.range cs.length) t := by
  unfold costL cov
  rw [← sum_ifs]
  refine congrArg List.sum (congrArg (fun f => (List.range cs.length).map f) (funext fun i => ?_))
  rw [bit_test]
theorem cov_cons (g : Nat → Nat) (i : Nat) (l : List Nat) (t : Nat) : cov g (i :: l) t = (if t.testBit i = true then g i else 0) + cov g l t := by
  unfold cov
  rw [List.map_cons, List.sum_cons]
theorem cov_mod (g : Nat → Nat) (a b : Nat) : ∀ l : List Nat, cov g l (a &&& b) + cov g l (a ||| b) = cov g l a + cov g l b
  | [] => rfl
  | i :: l => by
    have ih := cov_mod g a b l
    rw [cov_cons, cov_cons, cov_cons, cov_cons, Nat.testBit_and, Nat.testBit_or]
    cases a.testBit i <;> cases b.testBit i <;> simp only [Bool.and_true, Bool.and_false, Bool.or_true, Bool.or_false, Bool.false_eq_true, if_true, if_false] <;> omega
theorem cov_mono (g : Nat → Nat) {a b : Nat} (h : a &&& b = a) : ∀ l : List Nat, cov g l a ≤ cov g l b
  | [] => Nat.le_refl _
  | i :: l => by
    have ih := cov_mono g h l
    have hi : a.testBit i = true → b.testBit i = true := fun z => by
      have e : (a &&& b).testBit i = a.testBit i := by rw [h]
      rw [Nat.testBit_and, z, Bool.true_and] at e
      exact e
    unfold cov at ih ⊢
    simp only [List.map_cons, List.sum_cons]
    cases ha : a.testBit i with
    | true => rw [hi ha]; omega
    | false => simp; omega
theorem costL_mod (cs : List Nat) (a b : Nat) : costL cs (a &&& b) + costL cs (a ||| b) = costL cs a + costL cs b := by
  rw [cost_cov, cost_cov, cost_cov, cost_cov]
  exact cov_mod _ a b _
theorem costL_mono (cs : List Nat) {a b : Nat} (h : a &&& b = a) : costL cs a ≤ costL cs b := by
  rw [cost_cov, cost_cov]
  exact cov_mono _ h _
theorem costL_zero (cs : List Nat) : costL cs 0 = 0 := by
  rw [cost_cov]
  unfold cov
  generalize List.range cs.length = l
  induction l with
  | nil => rfl
  | cons i l ih =>
    rw [List.map_cons, List.sum_cons, ih]
    simp
theorem done_iff {t : Nat} {j : Job} : doneB t j = true ↔ j.needs &&& t = j.needs := by
  unfold doneB
  rw [beq_iff_eq, Nat.and_comm]
theorem payL_ifs (js : List Job) (t : Nat) : payL js t = (js.map fun j => if doneB t j = true then j.pay else 0).sum := (sum_ifs _ _ js).symm
theorem sub_and {n a b : Nat} (ha : n &&& a = n) (hb : n &&& b = n) : n &&& (a &&& b) = n := by
  rw [← Nat.and_assoc, ha, hb]
theorem sub_or {n a b : Nat} (ha : n &&& a = n) : n &&& (a ||| b) = n := by
  apply Nat.eq_of_testBit_eq
  intro i
  have e : (n &&& a).testBit i = n.testBit i := by rw [ha]
  rw [Nat.testBit_and] at e
  rw [Nat.testBit_and, Nat.testBit_or]
  cases h : n.testBit i with
  | false => rfl
  | true =>
    rw [h, Bool.true_and] at e
    rw [e]
    rfl
theorem payL_super (a b : Nat) : ∀ js : List Job, payL js a + payL js b ≤ payL js (a &&& b) + payL js (a ||| b)
  | [] => Nat.le_refl _
  | j :: js => by
    have ih := payL_super a b js
    rw [payL_ifs, payL_ifs, payL_ifs, payL_ifs] at ih ⊢
    simp only [List.map_cons, List.sum_cons]
    have h1 : doneB a j = true → doneB b j = true → doneB (a &&& b) j = true := fun h1 h2 => done_iff.mpr (sub_and (done_iff.mp h1) (done_iff.mp h2))
    have h2 : doneB a j = true → doneB (a ||| b) j = true := fun h1 => done_iff.mpr (sub_or (done_iff.mp h1))
    have h3 : doneB b j = true → doneB (a ||| b) j = true := fun h1 => done_iff.mpr (by rw [Nat.or_comm]; exact sub_or (done_iff.mp h1))
    cases ha : doneB a j with
    | true =>
      cases hb : doneB b j with
      | true =>
        rw [h1 ha hb, h2 ha]
        omega
      | false =>
        rw [h2 ha]
        simp only [if_pos, if_neg, Bool.false_eq_true, if_false, if_true]
        omega
    | false =>
      cases hb : doneB b j with
      | true =>
        rw [h3 hb]
        simp only [if_pos, if_neg, Bool.false_eq_true, if_false, if_true]
        omega
      | false =>
        simp only [Bool.false_eq_true, if_false]
        omega
theorem payL_mono {a b : Nat} (h : a &&& b = a) : ∀ js : List Job, payL js a ≤ payL js b
  | [] => Nat.le_refl _
  | j :: js => by
    have ih := payL_mono h js
    rw [payL_ifs, payL_ifs] at ih ⊢
    simp only [List.map_cons, List.sum_cons]
    cases ha : doneB a j with
    | true =>
      have hb : doneB b j = true := done_iff.mpr (by
        have z := done_iff.mp ha
        rw [← z, Nat.and_assoc, h])
      rw [hb]
      omega
    | false =>
      simp only [Bool.false_eq_true, if_false]
      omega
theorem gain_is (s : Shop) (a b t : Nat) : Dr05.gain s a b t = (b : Int) * (payL s.jobs t : Int) - (a : Int) * (costL s.costs t : Int) := by
  unfold Dr05.gain
  rw [pay_eq, cost_eq, Int.natCast_mul, Int.natCast_mul]
theorem gain_super (s : Shop) (a b x y : Nat) : Dr05.gain s a b x + Dr05.gain s a b y ≤ Dr05.gain s a b (x &&& y) + Dr05.gain s a b (x ||| y) := by
  rw [gain_is, gain_is, gain_is, gain_is]
  have h1 : ((costL s.costs (x &&& y) : Nat) : Int) + (costL s.costs (x ||| y) : Int) = (costL s.costs x : Int) + (costL s.costs y : Int) := by
    have := costL_mod s.costs x y
    omega
  have h2 : (payL s.jobs x : Int) + (payL s.jobs y : Int) ≤ (payL s.jobs (x &&& y) : Int) + (payL s.jobs (x ||| y) : Int) := by
    have := payL_super x y s.jobs
    omega
  have h3 := Int.mul_le_mul_of_nonneg_left h2 (Int.natCast_nonneg b)
  have h4 := congrArg (fun z => (a : Int) * z) h1
  simp only [Int.mul_add] at h3 h4
  omega
theorem mem_best {s : Shop} {a b t : Nat} : t ∈ Dr05.best s a b ↔ t < 2 ^ s.costs.length ∧ ∀ u, u < 2 ^ s.costs.length → Dr05.gain s a b u ≤ Dr05.gain s a b t := by
  obtain ⟨⟨t0, ht0, e0⟩, hle⟩ := most_is s a b (sets_ne s)
  constructor
  · intro h
    obtain ⟨h1, h2⟩ := List.mem_filter.mp h
    have h2 := beq_iff_eq.mp h2
    exact ⟨List.mem_range.mp h1, fun u hu => by rw [h2]; exact hle u (List.mem_range.mpr hu)⟩
  · rintro ⟨h1, h2⟩
    refine List.mem_filter.mpr ⟨List.mem_range.mpr h1, beq_iff_eq.mpr ?_⟩
    have z1 := hle t (List.mem_range.mpr h1)
    have z2 := h2 t0 (List.mem_range.mp ht0)
    rw [← e0] at z2
    omega
theorem and_lt {a b n : Nat} (h : a < 2 ^ n) : a &&& b < 2 ^ n := Nat.lt_of_le_of_lt Nat.and_le_left h
theorem or_lt {a b n : Nat} (h : a < 2 ^ n) (h2 : b < 2 ^ n) : a ||| b < 2 ^ n := Nat.or_lt_two_pow h h2
theorem best_and {s : Shop} {a b x y : Nat} (hx : x ∈ Dr05.best s a b) (hy : y ∈ Dr05.best s a b) : x &&& y ∈ Dr05.best s a b := by
  obtain ⟨x1, x2⟩ := mem_best.mp hx
  obtain ⟨y1, y2⟩ := mem_best.mp hy
  refine mem_best.mpr ⟨and_lt x1, fun u hu => ?_⟩
  have h := gain_super s a b x y
  have h1 := x2 u hu
  have h2 := y2 (x ||| y) (or_lt x1 y1)
  omega
theorem best_or {s : Shop} {a b x y : Nat} (hx : x ∈ Dr05.best s a b) (hy : y ∈ Dr05.best s a b) : x ||| y ∈ Dr05.best s a b := by
  obtain ⟨x1, x2⟩ := mem_best.mp hx
  obtain ⟨y1, y2⟩ := mem_best.mp hy
  refine mem_best.mpr ⟨or_lt x1 y1, fun u hu => ?_⟩
  have h := gain_super s a b x y
  have h1 := x2 u hu
  have h2 := y2 (x &&& y) (and_lt x1)
  omega
theorem fold_and : ∀ {l : List Nat} {x : Nat} {Pr : Nat → Prop}, (∀ a b, Pr a → Pr b → Pr (a &&& b)) → Pr x → (∀ y ∈ l, Pr y) → Pr (l.foldl Nat.land x) ∧ (l.foldl Nat.land x) &&& x = l.foldl Nat.land x ∧ ∀ y ∈ l, (l.foldl Nat.land x) &&& y = l.foldl Nat.land x
  | [], x, Pr, _, hx, _ => ⟨hx, Nat.and_self x, fun y hy => by simp at hy⟩
  | z :: l, x, Pr, hc, hx, hl => by
    obtain ⟨h1, h2, h3⟩ := fold_and (l := l) (x := x &&& z) hc (hc _ _ hx (hl z List.mem_cons_self)) fun y hy => hl y (List.mem_cons_of_mem _ hy)
    have e : (z :: l).foldl Nat.land x = l.foldl Nat.land (x &&& z) := rfl
    rw [e]
    refine ⟨h1, ?_, fun y hy => ?_⟩
    · rw [← h2, Nat.and_assoc, Nat.and_assoc, Nat.and_comm z x, ← Nat.and_assoc x x z, Nat.and_self]
    · rcases List.mem_cons.mp hy with rfl | hy
      · rw [← h2, Nat.and_assoc, Nat.and_assoc, Nat.and_self]
      · exact h3 y hy
/-- **the least** is worth having, and within each -/
theorem least_best (s : Shop) (a b : Nat) : Dr05.least s a b ∈ Dr05.best s a b ∧ ∀ t ∈ Dr05.best s a b, Dr05.least s a b &&& t = Dr05.least s a b := by
  obtain ⟨x, r, e⟩ : ∃ x r, Dr05.best s a b = x :: r := by
    cases e : Dr05.best s a b with
    | nil => exact absurd e (best_ne s a b)
    | cons x r => exact ⟨x, r, rfl⟩
  have hx : x ∈ Dr05.best s a b := by rw [e]; exact List.mem_cons_self
  obtain ⟨h1, _, h3⟩ := fold_and (l := x :: r) (x := x) (Pr := fun t => t ∈ Dr05.best s a b) (fun _ _ => best_and) hx (fun y hy => by rw [e]; exact hy)
  rw [least_eq s a b e]
  exact ⟨h1, fun t ht => h3 t (by rw [e] at ht; exact ht)⟩
theorem least_is {s : Shop} {a b u : Nat} (h1 : u ∈ Dr05.best s a b) (h2 : ∀ t ∈ Dr05.best s a b, u &&& t = u) : Dr05.least s a b = u := by
  obtain ⟨h3, h4⟩ := least_best s a b
  have z1 := h2 _ h3
  have z2 := h4 _ h1
  rw [← z2, Nat.and_comm, z1]
theorem fold_or : ∀ {l : List Nat} {x : Nat} {Pr : Nat → Prop}, (∀ a b, Pr a → Pr b → Pr (a ||| b)) → Pr x → (∀ y ∈ l, Pr y) → Pr (l.foldl Nat.lor x) ∧ x &&& (l.foldl Nat.lor x) = x ∧ ∀ y ∈ l, y &&& (l.foldl Nat.lor x) = y
  | [], x, Pr, _, hx, _ => ⟨hx, Nat.and_self x, fun y hy => by simp at hy⟩
  | z :: l, x, Pr, hc, hx, hl => by
    obtain ⟨h1, h2, h3⟩ := fold_or (l := l) (x := x ||| z) hc (hc _ _ hx (hl z List.mem_cons_self)) fun y hy => hl y (List.mem_cons_of_mem _ hy)
    have e : (z :: l).foldl Nat.lor x = l.foldl Nat.lor (x ||| z) := rfl
    rw [e]
    have up : ∀ {p q r : Nat}, p &&& q = p → q &&& r = q → p &&& r = p := fun {p q r} h g => by rw [← h, Nat.and_assoc, g]
    refine ⟨h1, up (sub_or (Nat.and_self x)) h2, fun y hy => ?_⟩
    rcases List.mem_cons.mp hy with rfl | hy
    · exact up (by rw [Nat.or_comm]; exact sub_or (Nat.and_self y)) h2
    · exact h3 y hy
/-- **the greatest** is worth having, and each is within it -/
theorem greatest_best (s : Shop) (a b : Nat) : Dr05.greatest s a b ∈ Dr05.best s a b ∧ ∀ t ∈ Dr05.best s a b, t &&& Dr05.greatest s a b = t := by
  obtain ⟨x, r, e⟩ : ∃ x r, Dr05.best s a b = x :: r := by
    cases e : Dr05.best s a b with
    | nil => exact absurd e (best_ne s a b)
    | cons x r => exact ⟨x, r, rfl⟩
  have hx : x ∈ Dr05.best s a b := by rw [e]; exact List.mem_cons_self
  have e2 : Dr05.greatest s a b = r.foldl Nat.lor x := by
    rw [greatest_eq, e, List.foldl_cons]
    have z : Nat.lor 0 x = x := Nat.zero_or x
    rw [z]
  obtain ⟨h1, h2, h3⟩ := fold_or (l := r) (x := x) (Pr := fun t => t ∈ Dr05.best s a b) (fun _ _ => best_or) hx (fun y hy => by rw [e]; exact List.mem_cons_of_mem _ hy)
  rw [e2]
  refine ⟨h1, fun t ht => ?_⟩
  rw [e] at ht
  rcases List.mem_cons.mp ht with rfl | ht
  · exact h2
  · exact h3 t ht
end JM
/-! JCalls: a call by its number and its numbers. Plain Lean. -/
namespace JM
open Dr05Neutral (callIn)
theorem in0 {ns : List Nat} {c : Dr05.Call} (h : callIn (0 :: ns) = some c) : c = .tools ns := by
  cases h
  rfl
theorem in1 : ∀ {ns : List Nat} {c : Dr05.Call}, callIn (1 :: ns) = some c → ∃ p t, ns = [p, t] ∧ c = .job p t
  | [p, t], c, h => by cases h; exact ⟨p, t, rfl, rfl⟩
  | [], c, h => by cases h
  | [_], c, h => by cases h
  | _ :: _ :: _ :: _, c, h => by cases h
theorem in2 : ∀ {ns : List Nat} {c : Dr05.Call}, callIn (2 :: ns) = some c → ∃ n, ns = [n] ∧ c = .gone n
  | [n], c, h => by cases h; exact ⟨n, rfl, rfl⟩
  | [], c, h => by cases h
  | _ :: _ :: _, c, h => by cases h
theorem in3 : ∀ {ns : List Nat} {c : Dr05.Call}, callIn (3 :: ns) = some c → ∃ p t, ns = [p, t] ∧ c = .pay p t
  | [p, t], c, h => by cases h; exact ⟨p, t, rfl, rfl⟩
  | [], c, h => by cases h
  | [_], c, h => by cases h
  | _ :: _ :: _ :: _, c, h => by cases h
theorem in4 : ∀ {ns : List Nat} {c : Dr05.Call}, callIn (4 :: ns) = some c → ∃ p t, ns = [p, t] ∧ c = .cost p t
  | [p, t], c, h => by cases h; exact ⟨p, t, rfl, rfl⟩
  | [], c, h => by cases h
  | [_], c, h => by cases h
  | _ :: _ :: _ :: _, c, h => by cases h
theorem in5 : ∀ {ns : List Nat} {c : Dr05.Call}, callIn (5 :: ns) = some c → ns = [] ∧ c = .best
  | [], c, h => by cases h; exact ⟨rfl, rfl⟩
  | _ :: _, c, h => by cases h
theorem in6 : ∀ {ns : List Nat} {c : Dr05.Call}, callIn (6 :: ns) = some c → ∃ n, ns = [n] ∧ c = .look n
  | [n], c, h => by cases h; exact ⟨n, rfl, rfl⟩
  | [], c, h => by cases h
  | _ :: _ :: _, c, h => by cases h
theorem in7 : ∀ {ns : List Nat} {c : Dr05.Call}, callIn (7 :: ns) = some c → ∃ p t, ns = [p, t] ∧ c = .times p t
  | [p, t], c, h => by cases h; exact ⟨p, t, rfl, rfl⟩
  | [], c, h => by cases h
  | [_], c, h => by cases h
  | _ :: _ :: _ :: _, c, h => by cases h
theorem in8 : ∀ {ns : List Nat} {c : Dr05.Call}, callIn (8 :: ns) = some c → ns = [] ∧ c = .steps
  | [], c, h => by cases h; exact ⟨rfl, rfl⟩
  | _ :: _, c, h => by cases h
theorem in9 : ∀ {ns : List Nat} {c : Dr05.Call}, callIn (9 :: ns) = some c → ∃ n, ns = [n] ∧ c = .lacks n
  | [n], c, h => by cases h; exact ⟨n, rfl, rfl⟩
  | [], c, h => by cases h
  | _ :: _ :: _, c, h => by cases h
theorem in10 : ∀ {ns : List Nat} {c : Dr05.Call}, callIn (10 :: ns) = some c → ∃ n, ns = [n] ∧ c = .spare n
  | [n], c, h => by cases h; exact ⟨n, rfl, rfl⟩
  | [], c, h => by cases h
  | _ :: _ :: _, c, h => by cases h
theorem in11 : ∀ {ns : List Nat} {c : Dr05.Call}, callIn (11 :: ns) = some c → ∃ n, ns = [n] ∧ c = .money n
  | [n], c, h => by cases h; exact ⟨n, rfl, rfl⟩
  | [], c, h => by cases h
  | _ :: _ :: _, c, h => by cases h
theorem in12 : ∀ {ns : List Nat} {c : Dr05.Call}, callIn (12 :: ns) = some c → ∃ n, ns = [n] ∧ c = .shares n
  | [n], c, h => by cases h; exact ⟨n, rfl, rfl⟩
  | [], c, h => by cases h
  | _ :: _ :: _, c, h => by cases h
theorem in13 : ∀ {ns : List Nat} {c : Dr05.Call}, callIn (13 :: ns) = some c → ns = [] ∧ c = .jobs
  | [], c, h => by cases h; exact ⟨rfl, rfl⟩
  | _ :: _, c, h => by cases h
end JM
/-! JParse: the list of calls, piece by piece. Plain Lean. -/
namespace JM
open Dr05 (Shop)
def I (l : List Nat) : List Int := l.map fun (n : Nat) => (n : Int)
theorem I_nat (l : List Nat) : (I l).map Int.toNat = l := by
  unfold I
  rw [List.map_map]
  have e : (Int.toNat ∘ fun (n : Nat) => (n : Int)) = id := by
    funext n
    exact Int.toNat_natCast n
  rw [e, List.map_id]
theorem I_len (l : List Nat) : (I l).length = l.length := List.length_map ..
theorem I_take (l : List Nat) (n : Nat) : (I l).take n = I (l.take n) := (List.map_take ..).symm
theorem I_drop (l : List Nat) (n : Nat) : (I l).drop n = I (l.drop n) := (List.map_drop ..).symm
/-- how many numbers stand behind a call with no row -/
def arity : Nat → Option Nat
  | 1 => some 2
  | 2 => some 1
  | 3 => some 2
  | 4 => some 2
  | 5 => some 0
  | 6 => some 1
  | 7 => some 2
  | 8 => some 0
  | 9 => some 1
  | 10 => some 1
  | 11 => some 1
  | 12 => some 1
  | 13 => some 0
  | _ => none
theorem shape_is (k : Nat) : PyDr05.shape (k : Int) = if k = 0 then some (0, 1) else (arity k).map fun n => (n, 0) := by
  match k with
  | 0 => rfl
  | 1 => rfl
  | 2 => rfl
  | 3 => rfl
  | 4 => rfl
  | 5 => rfl
  | 6 => rfl
  | 7 => rfl
  | 8 => rfl
  | 9 => rfl
  | 10 => rfl
  | 11 => rfl
  | 12 => rfl
  | 13 => rfl
  | n + 14 =>
    unfold PyDr05.shape
    rw [if_neg (by omega), if_neg (by omega), if_neg (by omega), if_neg (by omega), if_neg (by omega), if_neg (by omega), if_neg (by omega), if_neg (by omega), if_neg (by omega), if_neg (by omega), if_neg (by omega), if_neg (by omega), if_neg (by omega), if_neg (by omega), if_neg (by omega)]
    rfl
theorem whole_one (w : List Int) : PyDr05.whole [w] = [w] := by
  unfold PyDr05.whole
  split <;> first | rfl | (rename_i h; cases h; rfl) | skip
  all_goals (rename_i h; simp at h; try (subst h; rfl))
/-- one call off the list's front: where its numbers begin, how many they are, and the rest -/
theorem calls_step {f : Nat} {x : Nat} {r : List Nat} {raw : List (List (List Int))} (h : PyFlat.calls PyDr05.shape f (I (x :: r)) = some raw) :
    ∃ (f' n : Nat) (c : List (List Int)) (raw' : List (List (List Int))), raw = c :: raw' ∧ (PyDr05.whole c).headD [] = I (x :: (((x :: r).drop (if x = 0 then 2 else 1)).take n)) ∧
      PyFlat.calls PyDr05.shape f' (I ((x :: r).drop ((if x = 0 then 2 else 1) + n))) = some raw' ∧ (if x = 0 then 2 else 1) + n ≤ (x :: r).length ∧ (x = 0 → r[0]? = some n) ∧ (x ≠ 0 → arity x = some n) := by
  cases f with
  | zero => cases h
  | succ f =>
    have h : (match PyFlat.call PyDr05.shape (I (x :: r)) with
      | none => none
      | some (c, t) => match PyFlat.calls PyDr05.shape f t with
        | none => none
        | some cs => some (c :: cs)) = some raw := h
    cases hc : PyFlat.call PyDr05.shape (I (x :: r)) with
    | none =>
      rw [hc] at h
      cases h
    | some ct =>
      obtain ⟨c, t⟩ := ct
      rw [hc] at h
      dsimp only at h
      cases hs : PyFlat.calls PyDr05.shape f t with
      | none =>
        rw [hs] at h
        cases h
      | some cs =>
        rw [hs] at h
        have h := Option.some.inj h
        subst h
        have hc : (match PyDr05.shape (x : Int) with
          | none => none
          | some (n, k) => if (I r).length < n then none else match PyFlat.rows k ((I r).drop n) with
            | none => none
            | some (xs, t) => some (((x : Int) :: (I r).take n) :: xs, t)) = some (c, t) := hc
        rw [shape_is] at hc
        by_cases hx : x = 0
        · subst hx
          rw [if_pos rfl] at hc
          dsimp only at hc
          rw [if_neg (Nat.not_lt_zero _)] at hc
          cases r with
          | nil => cases hc
          | cons n r =>
            have hc : (match (match (if (0 : Int) ≤ (n : Int) ∧ ((n : Int)).toNat ≤ (I r).length then some ((I r).take ((n : Int)).toNat, (I r).drop ((n : Int)).toNat) else none : Option (List Int × List Int)) with
              | none => none
              | some (x, s) => some ([x], s) : Option (List (List Int) × List Int)) with
              | none => none
              | some (xs, t) => some ((((0 : Nat) : Int) :: []) :: xs, t)) = some (c, t) := hc
            by_cases hn : n ≤ r.length
            · rw [if_pos ⟨by omega, by rw [Int.toNat_natCast, I_len]; exact hn⟩] at hc
              dsimp only at hc
              rw [Int.toNat_natCast, I_take, I_drop] at hc
              have hc := Option.some.inj hc
              have h1 := congrArg Prod.fst hc
              have h2 := congrArg Prod.snd hc
              dsimp only at h1 h2
              subst h1
              subst h2
              refine ⟨f, n, _, cs, rfl, rfl, ?_, by simp only [if_pos, List.length_cons]; omega, fun _ => rfl, fun z => absurd rfl z⟩
              rw [if_pos rfl, show 2 + n = n + 1 + 1 by omega, List.drop_succ_cons, List.drop_succ_cons]
              exact hs
            · rw [if_neg (fun z => hn (by have := z.2; rw [Int.toNat_natCast, I_len] at this; exact this))] at hc
              cases hc
        · rw [if_neg hx] at hc
          cases ha : arity x with
          | none =>
            rw [ha] at hc
            cases hc
          | some n =>
            rw [ha] at hc
            dsimp only [Option.map_some] at hc
            by_cases hn : (I r).length < n
            · rw [if_pos hn] at hc
              cases hc
            · rw [if_neg hn] at hc
              have hc := Option.some.inj hc
              have h1 := congrArg Prod.fst hc
              have h2 := congrArg Prod.snd hc
              dsimp only at h1 h2
              rw [I_take] at h1
              rw [I_drop] at h2
              subst h1
              subst h2
              rw [I_len] at hn
              refine ⟨f, n, _, cs, rfl, ?_, ?_, by rw [if_neg hx, List.length_cons]; omega, fun z => absurd z hx, fun _ => rfl⟩
              · rw [whole_one, if_neg hx]
                rfl
              · rw [if_neg hx, show 1 + n = n + 1 by omega, List.drop_succ_cons]
                exact hs
/-! ### the machine over the calls -/
def heads (raw : List (List (List Int))) : List (List Int) := (raw.map PyDr05.whole).map fun c => c.headD []
def outs : Shop → List (List Int) → List (List Int)
  | _, [] => []
  | s, h :: t => (Dr05Neutral.step s h).2 :: outs (Dr05Neutral.step s h).1 t
theorem played_outs : ∀ (cs : List (List (List Int))) (s : Shop), PyFlat.played (fun s c => Dr05Neutral.step s (c.headD [])) s cs = outs s (cs.map fun c => c.headD [])
  | [], _ => rfl
  | c :: cs, s => by
    show (Dr05Neutral.step s (c.headD [])).2 :: PyFlat.played _ (Dr05Neutral.step s (c.headD [])).1 cs = _
    rw [played_outs cs]
    rfl
def rem (s : Shop) (hs : List (List Int)) : List Int := PyFlat.told (outs s hs)
theorem rem_nil (s : Shop) : rem s [] = [] := rfl
theorem rem_cons (s : Shop) (h : List Int) (t : List (List Int)) : rem s (h :: t) = (((Dr05Neutral.step s h).2.length : Int) :: (Dr05Neutral.step s h).2) ++ rem (Dr05Neutral.step s h).1 t := rfl
theorem rem_len : ∀ (hs : List (List Int)) (s : Shop), (rem s hs).length = Dr05Neutral.many s hs + hs.length
  | [], _ => rfl
  | h :: t, s => by
    rw [rem_cons, List.length_append, rem_len t, List.length_cons, List.length_cons]
    show _ = (Dr05Neutral.step s h).2.length + Dr05Neutral.many (Dr05Neutral.step s h).1 t + (t.length + 1)
    omega
theorem some_of_ite {α : Type} {c : Prop} [Decidable c] {x : Option α} {y : α} (h : (if c then none else x) = some y) : x = some y := by
  by_cases hc : c
  · rw [if_pos hc] at h
    cases h
  · rw [if_neg hc] at h
    exact h
theorem callOf_in {l : List Int} {cl : Dr05.Call} (h : Dr05Neutral.callOf l = some cl) : Dr05Neutral.callIn (l.map Int.toNat) = some cl := some_of_ite h
theorem step_call {l : List Int} {cl : Dr05.Call} (s : Shop) (h : Dr05Neutral.callOf l = some cl) : Dr05Neutral.step s l = Dr05.step s cl := by
  unfold Dr05Neutral.step
  generalize Dr05Neutral.callOf l = o at h
  subst h
  rfl
/-- a call's numbers, as the specification reads them -/
theorem step_of {x : Nat} {ns : List Nat} (s : Shop) (h : Dr05Neutral.asked1 (I (x :: ns)) = true) : ∃ cl, Dr05Neutral.callIn (x :: ns) = some cl ∧ Dr05Neutral.step s (I (x :: ns)) = Dr05.step s cl := by
  obtain ⟨cl, e⟩ := Option.isSome_iff_exists.mp (show (Dr05Neutral.callOf (I (x :: ns))).isSome = true from h)
  have e1 := callOf_in e
  rw [I_nat] at e1
  exact ⟨cl, e1, step_call s e⟩
theorem asked_def (hs : List (List Int)) : Dr05Neutral.asked hs = (hs.all Dr05Neutral.asked1 && (decide (1 ≤ hs.length) && (decide (hs.length ≤ 40) && decide (Dr05Neutral.many Dr05Neutral.start hs ≤ 1000000)))) := by
  with_unfolding_all rfl
theorem and3 {a b c d : Bool} (h : (a && (b && (c && d))) = true) : a = true ∧ b = true ∧ c = true ∧ d = true := by
  rw [Bool.and_eq_true, Bool.and_eq_true, Bool.and_eq_true] at h
  exact h
theorem asked_all {hs : List (List Int)} (h : Dr05Neutral.asked hs = true) : ∀ c ∈ hs, Dr05Neutral.asked1 c = true := by
  rw [asked_def] at h
  exact fun c hc => List.all_eq_true.mp (and3 h).1 c hc
theorem asked_40 {hs : List (List Int)} (h : Dr05Neutral.asked hs = true) : hs.length ≤ 40 := by
  rw [asked_def] at h
  exact of_decide_eq_true (and3 h).2.2.1
theorem asked_many {hs : List (List Int)} (h : Dr05Neutral.asked hs = true) : Dr05Neutral.many Dr05Neutral.start hs ≤ 1000000 := by
  rw [asked_def] at h
  exact of_decide_eq_true (and3 h).2.2.2
theorem asked_len {hs : List (List Int)} (h : Dr05Neutral.asked hs = true) : (rem Dr05Neutral.start hs).length ≤ 1000040 := by
  rw [rem_len]
  have h2 := asked_40 h
  have h3 := asked_many h
  generalize Dr05Neutral.many Dr05Neutral.start hs = m at h3
  omega
theorem and4 {a b c d e : Bool} (h : (a && b && c && d && e) = true) : d = true := by
  cases d with
  | true => rfl
  | false =>
    rw [Bool.and_false, Bool.false_and] at h
    exact h
/-- what the row asks, taken apart -/
theorem asked_is {l : List Int} (h : PyDr05.answers_asked l = true) : ∃ raw, PyFlat.calls PyDr05.shape l.length l = some raw ∧ Dr05Neutral.asked (heads raw) = true ∧ PyDr05.answers l = rem Dr05Neutral.start (heads raw) := by
  unfold PyDr05.answers_asked at h
  cases e : PyFlat.calls PyDr05.shape l.length l with
  | none =>
    rw [e] at h
    cases h
  | some raw =>
    rw [e] at h
    refine ⟨raw, rfl, and4 h, ?_⟩
    unfold PyDr05.answers PyDr05.calls
    rw [e]
    dsimp only
    rw [played_outs]
    rfl
end JM
/-! JScale: a shop with all costs and all pay so many times as great. Plain Lean. -/
namespace JM
open Dr05 (Shop Job)
theorem sum_times (g : Nat → Nat) (a : Nat) : ∀ l : List Nat, (l.map fun i => g i * a).sum = a * (l.map g).sum
  | [] => by simp
  | x :: l => by
    rw [List.map_cons, List.map_cons, List.sum_cons, List.sum_cons, sum_times g a l, Nat.mul_add, Nat.mul_comm (g x)]
def scale (b : Nat) (j : Job) : Job := { j with pay := j.pay * b }
def scaled (s : Shop) (a b : Nat) : Shop := ⟨s.costs.map fun c => c * a, s.jobs.map (scale b), s.next⟩
theorem costL_scaled (cs : List Nat) (a t : Nat) : costL (cs.map fun c => c * a) t = a * costL cs t := by
  unfold costL
  rw [List.length_map, ← sum_times]
  refine congrArg List.sum (List.map_congr_left fun i _ => ?_)
  rw [List.getD_eq_getElem?_getD, List.getD_eq_getElem?_getD, List.getElem?_map]
  cases cs[i]? with
  | none => simp
  | some x => rfl
theorem payL_scaled (js : List Job) (b t : Nat) : payL (js.map (scale b)) t = b * payL js t := by
  unfold payL
  rw [List.filter_map, List.map_map]
  have e : (doneB t ∘ scale b) = doneB t := rfl
  rw [e]
  generalize js.filter (doneB t) = l
  induction l with
  | nil => simp
  | cons x l ih =>
    rw [List.map_cons, List.map_cons, List.sum_cons, List.sum_cons, ih, Nat.mul_add]
    show x.pay * b + _ = _
    rw [Nat.mul_comm x.pay]
theorem gain_scaled (s : Shop) (a b t : Nat) : Dr05.gain (scaled s a b) 1 1 t = Dr05.gain s a b t := by
  rw [gain_is, gain_is]
  show ((1 : Nat) : Int) * ((payL (s.jobs.map (scale b)) t : Nat) : Int) - ((1 : Nat) : Int) * ((costL (s.costs.map fun c => c * a) t : Nat) : Int) = _
  rw [costL_scaled, payL_scaled, Int.natCast_mul, Int.natCast_mul, Int.natCast_one, Int.one_mul, Int.one_mul]
theorem sets_scaled (s : Shop) (a b : Nat) : Dr05.sets (scaled s a b) = Dr05.sets s := by
  unfold Dr05.sets
  show List.range (2 ^ (s.costs.map fun c => c * a).length) = _
  rw [List.length_map]
theorem most_scaled (s : Shop) (a b : Nat) (l : List Nat) : Dr05.most (scaled s a b) 1 1 l = Dr05.most s a b l := by
  unfold Dr05.most
  have e : (fun (m : Int) (t : Nat) => max m (Dr05.gain (scaled s a b) 1 1 t)) = fun m t => max m (Dr05.gain s a b t) := by
    funext m t
    rw [gain_scaled]
  rw [gain_scaled]
  exact congrArg (fun f => List.foldl f _ l) e
theorem best_scaled (s : Shop) (a b : Nat) : Dr05.best (scaled s a b) 1 1 = Dr05.best s a b := by
  unfold Dr05.best
  rw [sets_scaled, most_scaled]
  refine List.filter_congr fun t _ => ?_
  rw [gain_scaled]
theorem sz_scaled {s : Shop} (a b : Nat) (h : Sz s) : Sz (scaled s a b) := by
  refine ⟨?_, ?_, ?_⟩
  · show (s.costs.map fun c => c * a).length ≤ 5
    rw [List.length_map]
    exact h.c5
  · show (s.jobs.map (scale b)).length ≤ 5
    rw [List.length_map]
    exact h.j5
  · show ((s.jobs.map (scale b)).map fun j => j.num).Nodup
    rw [List.map_map]
    exact h.nd
theorem left_scaled (s : Shop) (a b t : Nat) : left (scaled s a b) t = Dr05.gain s a b t := by rw [← gain_eq, gain_scaled]
theorem payL_zero {js : List Job} (h : ∀ j ∈ js, j.needs ≠ 0) : payL js 0 = 0 := by
  unfold payL
  rw [List.filter_eq_nil_iff.mpr fun j hj => ?_]
  · rfl
  · unfold doneB
    rw [Nat.zero_and]
    intro z
    exact h j hj (beq_iff_eq.mp z).symm
theorem sum_le (g : Nat → Nat) (m : Nat) : ∀ l : List Nat, (∀ i ∈ l, g i ≤ m) → (l.map g).sum ≤ m * l.length
  | [], _ => by simp
  | x :: l, h => by
    have z := sum_le g m l fun i hi => h i (List.mem_cons_of_mem _ hi)
    have z2 := h x List.mem_cons_self
    rw [List.map_cons, List.sum_cons, List.length_cons, Nat.mul_add, Nat.mul_one]
    omega
theorem costL_le {cs : List Nat} (h : ∀ c ∈ cs, c ≤ 1000) (t : Nat) : costL cs t ≤ 1000 * cs.length := by
  unfold costL
  refine Nat.le_trans (sum_le _ 1000 _ fun i hi => ?_) (Nat.mul_le_mul_left _ (Nat.le_trans (List.length_filter_le _ _) (by rw [List.length_range]; exact Nat.le_refl _)))
  rw [List.getD_eq_getElem?_getD]
  cases e : cs[i]? with
  | none => exact Nat.zero_le _
  | some x => exact h x (List.mem_of_getElem? e)
theorem min_next {l S L sv C P : Int} (hS : 0 < S) (hsv : 0 ≤ sv) (hC : 0 ≤ C) (h1 : l * S < L * sv) (h2 : L * C ≤ P * S) : l * C ≤ P * sv := by
  refine Int.le_of_mul_le_mul_right (a := S) ?_ hS
  have z1 := Int.mul_le_mul_of_nonneg_right (Int.le_of_lt h1) hC
  have z2 := Int.mul_le_mul_of_nonneg_right h2 hsv
  rw [Int.mul_right_comm l C S, Int.mul_right_comm P sv S]
  rw [Int.mul_right_comm L sv C] at z1
  exact Int.le_trans z1 z2
theorem least_fold (s : Shop) (a b : Nat) {x : Nat} {r : List Nat} (e : Dr05.best s a b = x :: r) : (x :: r).foldl Nat.land x = Dr05.least s a b := (least_eq s a b e).symm
theorem best_cons (s : Shop) (a b : Nat) : ∃ x r, Dr05.best s a b = x :: r := by
  cases e : Dr05.best s a b with
  | nil => exact absurd e (best_ne s a b)
  | cons x r => exact ⟨x, r, rfl⟩
end JM
/-! JSteps: the least set worth having as the factor rises. Plain Lean. -/
namespace JM
open Dr05 (Shop Job)
/-! ### fractions -/
theorem mk_parts (P : Int) {C : Nat} (hC : C ≠ 0) : ∃ k : Nat, 0 < k ∧ P = (mkRat P C).num * (k : Int) ∧ C = (mkRat P C).den * k := by
  obtain ⟨m, h1, h2, h3⟩ := Rat.mkRat_num_den (n' := (mkRat P C).num) (d' := (mkRat P C).den) (z' := (mkRat P C).den_nz) (c := (mkRat P C).reduced) hC rfl
  exact ⟨m, Nat.pos_of_ne_zero h1, h2, h3⟩
theorem le_mk (x : Rat) (P : Int) {C : Nat} (hC : C ≠ 0) : x ≤ mkRat P C ↔ x.num * (C : Int) ≤ P * (x.den : Int) := by
  obtain ⟨k, hk, h1, h2⟩ := mk_parts P hC
  rw [Rat.le_iff]
  generalize mkRat P C = y at h1 h2
  rw [h1, h2, Int.natCast_mul, ← Int.mul_assoc, Int.mul_assoc y.num, Int.mul_comm (k : Int), ← Int.mul_assoc y.num]
  have hk' : (0 : Int) < (k : Int) := by omega
  constructor
  · intro h
    exact Int.mul_le_mul_of_nonneg_right h (Int.le_of_lt hk')
  · intro h
    exact Int.le_of_mul_le_mul_right h hk'
theorem eq_mk {x : Rat} {P : Int} {C : Nat} (hC : C ≠ 0) : x = mkRat P C ↔ x.num * (C : Int) = P * (x.den : Int) := by
  constructor
  · intro h
    have z := (Rat.mkRat_eq_iff (n₁ := x.num) (n₂ := P) x.den_nz hC).mp ((Rat.mkRat_self x).trans h)
    exact z
  · intro h
    rw [← (Rat.mkRat_eq_iff (n₁ := x.num) (n₂ := P) x.den_nz hC).mpr h, Rat.mkRat_self]
theorem rat_eq {x y : Rat} (h : x.num * (y.den : Int) = y.num * (x.den : Int)) : x = y := by
  have z := (eq_mk (x := x) (P := y.num) y.den_nz).mpr h
  rw [Rat.mkRat_self] at z
  exact z
theorem fraction_mk (m : Int) {b : Nat} (hb : b ≠ 0) : Dr05.fraction ((m : Rat) / (b : Rat)) = [m / ((b.gcd m.natAbs : Nat) : Int), ((b / b.gcd m.natAbs : Nat) : Int)] := by
  unfold Dr05.fraction
  rw [← Rat.mkRat_eq_div, Rat.num_mkRat, Rat.den_mkRat, if_neg hb, if_neg hb]
/-! ### from one factor to a greater one -/
section
variable {s : Shop}
abbrev pu (s : Shop) (t : Nat) : Int := (payL s.jobs t : Int)
abbrev cu (s : Shop) (t : Nat) : Int := (costL s.costs t : Int)
theorem gain_le {a b u t : Nat} : Dr05.gain s a b t ≤ Dr05.gain s a b u ↔ (a : Int) * (cu s u - cu s t) ≤ (b : Int) * (pu s u - pu s t) := by
  rw [gain_is, gain_is]
  unfold cu pu
  rw [Int.mul_sub, Int.mul_sub]
  omega
/-- a dearer set is no better at a greater factor -/
theorem stays {a b c d : Nat} {u t : Nat} (hb : 0 < b) (hle : a * d ≤ c * b) (hc : cu s u ≤ cu s t) (h : Dr05.gain s a b t ≤ Dr05.gain s a b u) : Dr05.gain s c d t ≤ Dr05.gain s c d u := by
  rw [gain_le] at h ⊢
  generalize cu s u - cu s t = x, hx : cu s u - cu s t = x at h ⊢
  have hx0 : x ≤ 0 := by omega
  generalize pu s u - pu s t = y at h ⊢
  have hle' : (a : Int) * (d : Int) ≤ (c : Int) * (b : Int) := by
    have z := Int.ofNat_le.mpr hle
    rw [Int.natCast_mul, Int.natCast_mul] at z
    exact z
  have h1 := Int.mul_le_mul_of_nonneg_left h (Int.natCast_nonneg d)
  have h2 := Int.mul_le_mul_of_nonpos_right hle' hx0
  refine Int.le_of_mul_le_mul_left (a := (b : Int)) ?_ (by omega)
  have e1 : (b : Int) * ((c : Int) * x) = (c : Int) * (b : Int) * x := by rw [← Int.mul_assoc, Int.mul_comm (b : Int)]
  have e2 : (b : Int) * ((d : Int) * y) = (d : Int) * ((b : Int) * y) := by rw [← Int.mul_assoc, Int.mul_comm (b : Int), Int.mul_assoc]
  have e3 : (a : Int) * (d : Int) * x = (d : Int) * ((a : Int) * x) := by rw [Int.mul_comm (a : Int), Int.mul_assoc]
  rw [e1, e2]
  rw [e3] at h2
  omega
theorem stays_lt {a b c d : Nat} {u t : Nat} (hb : 0 < b) (hlt : a * d < c * b) (hc : cu s u < cu s t) (h : Dr05.gain s a b t ≤ Dr05.gain s a b u) : Dr05.gain s c d t < Dr05.gain s c d u := by
  refine Int.not_le.mp fun hh => ?_
  rw [gain_le] at h hh
  have e0 : cu s t - cu s u = -(cu s u - cu s t) := by omega
  have e1 : pu s t - pu s u = -(pu s u - pu s t) := by omega
  rw [e0, e1, Int.mul_neg, Int.mul_neg] at hh
  generalize hx : cu s u - cu s t = x at h hh
  have hx0 : x < 0 := by omega
  generalize pu s u - pu s t = y at h hh
  have hlt' : (a : Int) * (d : Int) < (c : Int) * (b : Int) := by
    have z := Int.ofNat_lt.mpr hlt
    rw [Int.natCast_mul, Int.natCast_mul] at z
    exact z
  have h1 := Int.mul_le_mul_of_nonneg_left h (Int.natCast_nonneg d)
  have h3 := Int.mul_le_mul_of_nonneg_left (show (d : Int) * y ≤ (c : Int) * x by omega) (Int.natCast_nonneg b)
  have h2 : (c : Int) * (b : Int) * x < (a : Int) * (d : Int) * x := Int.mul_lt_mul_of_neg_right hlt' hx0
  have q1 : (b : Int) * ((c : Int) * x) = (c : Int) * (b : Int) * x := by rw [← Int.mul_assoc, Int.mul_comm (b : Int)]
  have q2 : (b : Int) * ((d : Int) * y) = (d : Int) * ((b : Int) * y) := by rw [← Int.mul_assoc, Int.mul_comm (b : Int), Int.mul_assoc]
  have q3 : (a : Int) * (d : Int) * x = (d : Int) * ((a : Int) * x) := by rw [Int.mul_comm (a : Int), Int.mul_assoc]
  rw [q1, q2] at h3
  rw [q3] at h2
  omega
/-- below the next even point the least stays -/
theorem least_stays {a b c d u : Nat} (hb : 0 < b) (hd : 0 < d) (hu : Dr05.least s a b = u) (hle : a * d ≤ c * b)
    (hn : ∀ t, t < 2 ^ s.costs.length → cu s t < cu s u → Dr05.gain s c d t < Dr05.gain s c d u) : Dr05.least s c d = u := by
  obtain ⟨h1, h2⟩ := least_best s a b
  rw [hu] at h1 h2
  obtain ⟨u1, u2⟩ := mem_best.mp h1
  have ub : u ∈ Dr05.best s c d := mem_best.mpr ⟨u1, fun t ht => by
    by_cases hc : cu s t < cu s u
    · exact Int.le_of_lt (hn t ht hc)
    · exact stays hb hle (by omega) (u2 t ht)⟩
  refine least_is ub fun t ht => ?_
  obtain ⟨t1, t2⟩ := mem_best.mp ht
  have hc : ¬ cu s t < cu s u := fun hc => by
    have z1 := hn t t1 hc
    have z2 := t2 u u1
    omega
  by_cases hlt : a * d < c * b
  · by_cases hc2 : cu s u < cu s t
    · have z1 := stays_lt (d := d) (c := c) hb hlt hc2 (u2 t t1)
      have z2 := t2 u u1
      omega
    · -- as dear: as good at every factor
      have hce : cu s t = cu s u := by omega
      refine h2 t (mem_best.mpr ⟨t1, fun v hv => ?_⟩)
      have z1 := u2 v hv
      have z2 := t2 u u1
      have e1 : Dr05.gain s a b u ≤ Dr05.gain s a b t := by
        rw [gain_le] at z2 ⊢
        rw [hce] at z2 ⊢
        simp only [Int.sub_self, Int.mul_zero] at z2 ⊢
        have y : 0 ≤ pu s t - pu s u := Int.nonneg_of_mul_nonneg_right z2 (by omega)
        exact Int.mul_nonneg (Int.natCast_nonneg b) y
      omega
  · -- the same factor
    have he : a * d = c * b := by omega
    refine h2 t (mem_best.mpr ⟨t1, fun v hv => ?_⟩)
    have z1 := u2 v hv
    have z2 := t2 u u1
    have e1 : Dr05.gain s a b u ≤ Dr05.gain s a b t := by
      rw [gain_le] at z2 ⊢
      generalize cu s t - cu s u = x at z2 ⊢
      generalize pu s t - pu s u = y at z2 ⊢
      refine Int.le_of_mul_le_mul_left (a := (d : Int)) ?_ (by omega)
      have h3 := Int.mul_le_mul_of_nonneg_left z2 (Int.natCast_nonneg b)
      have he' : (a : Int) * (d : Int) = (c : Int) * (b : Int) := by
        have z := congrArg (fun n : Nat => (n : Int)) he
        simp only [Int.natCast_mul] at z
        exact z
      have q1 : (b : Int) * ((c : Int) * x) = (c : Int) * (b : Int) * x := by rw [← Int.mul_assoc, Int.mul_comm (b : Int)]
      have q2 : (b : Int) * ((d : Int) * y) = (d : Int) * ((b : Int) * y) := by rw [← Int.mul_assoc, Int.mul_comm (b : Int), Int.mul_assoc]
      have q3 : (a : Int) * (d : Int) * x = (d : Int) * ((a : Int) * x) := by rw [Int.mul_comm (a : Int), Int.mul_assoc]
      rw [q1, ← he', q3, q2] at h3
      exact h3
    omega
/-- at an even point the least changes -/
theorem least_falls {a b c d u t : Nat} (hb : 0 < b) (hd : 0 < d) (hu : Dr05.least s a b = u) (hle : a * d ≤ c * b)
    (hn : ∀ t, t < 2 ^ s.costs.length → cu s t < cu s u → Dr05.gain s c d t ≤ Dr05.gain s c d u) (ht : t < 2 ^ s.costs.length) (htc : cu s t < cu s u) (hte : Dr05.gain s c d u ≤ Dr05.gain s c d t) :
    Dr05.least s c d ≠ u ∧ Dr05.least s c d &&& u = Dr05.least s c d ∧ u ∈ Dr05.best s c d := by
  obtain ⟨h1, h2⟩ := least_best s a b
  rw [hu] at h1 h2
  obtain ⟨u1, u2⟩ := mem_best.mp h1
  have ub : u ∈ Dr05.best s c d := mem_best.mpr ⟨u1, fun t ht => by
    by_cases hc : cu s t < cu s u
    · exact hn t ht hc
    · exact stays hb hle (by omega) (u2 t ht)⟩
  obtain ⟨_, ub2⟩ := mem_best.mp ub
  have tb : t ∈ Dr05.best s c d := mem_best.mpr ⟨ht, fun v hv => Int.le_trans (ub2 v hv) hte⟩
  obtain ⟨l1, l2⟩ := least_best s c d
  refine ⟨fun z => ?_, l2 u ub, ub⟩
  have e := costL_mono s.costs (l2 t tb)
  rw [z] at e
  unfold cu at htc
  omega
/-- how many places a set has -/
def size (s : Shop) (u : Nat) : Nat := ((List.range s.costs.length).filter fun i => u.testBit i).length
theorem filter_len {p q : Nat → Bool} : ∀ {l : List Nat}, (∀ i ∈ l, p i = true → q i = true) → (l.filter p).length ≤ (l.filter q).length ∧ ((∃ i ∈ l, q i = true ∧ p i = false) → (l.filter p).length < (l.filter q).length)
  | [], _ => ⟨Nat.le_refl _, fun ⟨i, h, _⟩ => by simp at h⟩
  | x :: l, h => by
    obtain ⟨h1, h2⟩ := filter_len (l := l) fun i hi => h i (List.mem_cons_of_mem _ hi)
    rw [List.filter_cons, List.filter_cons]
    cases hp : p x with
    | true =>
      rw [h x List.mem_cons_self hp]
      simp only [if_true, List.length_cons]
      refine ⟨by omega, ?_⟩
      rintro ⟨i, hi, hq, hpi⟩
      rcases List.mem_cons.mp hi with rfl | hi
      · rw [hp] at hpi
        cases hpi
      · have := h2 ⟨i, hi, hq, hpi⟩
        omega
    | false =>
      cases hq : q x with
      | true =>
        simp only [if_true, Bool.false_eq_true, if_false, List.length_cons]
        exact ⟨by omega, fun _ => by omega⟩
      | false =>
        simp only [Bool.false_eq_true, if_false]
        refine ⟨h1, ?_⟩
        rintro ⟨i, hi, hqi, hpi⟩
        rcases List.mem_cons.mp hi with rfl | hi
        · rw [hq] at hqi
          cases hqi
        · exact h2 ⟨i, hi, hqi, hpi⟩
theorem size_le (s : Shop) (u : Nat) : size s u ≤ s.costs.length := by
  unfold size
  have := List.length_filter_le (fun i => u.testBit i) (List.range s.costs.length)
  rw [List.length_range] at this
  exact this
theorem size_lt {u v : Nat} (hu : u < 2 ^ s.costs.length) (h : v &&& u = v) (hne : v ≠ u) : size s v < size s u := by
  have sub : ∀ i, v.testBit i = true → u.testBit i = true := fun i z => by
    have e : (v &&& u).testBit i = v.testBit i := by rw [h]
    rw [Nat.testBit_and, z, Bool.true_and] at e
    exact e
  refine (filter_len fun i _ => sub i).2 ?_
  refine Classical.byContradiction fun hno => hne (Nat.eq_of_testBit_eq fun i => ?_)
  by_cases hi : i < s.costs.length
  · cases hu' : u.testBit i with
    | false =>
      cases hv : v.testBit i with
      | false => rfl
      | true =>
        rw [sub i hv] at hu'
        cases hu'
    | true =>
      cases hv : v.testBit i with
      | true => rfl
      | false => exact absurd ⟨i, List.mem_range.mpr hi, hu', hv⟩ hno
  · have h1 : u.testBit i = false := Nat.testBit_lt_two_pow (Nat.lt_of_lt_of_le hu (Nat.pow_le_pow_right (by decide) (by omega)))
    have h2 : v.testBit i = false := by
      cases hv : v.testBit i with
      | false => rfl
      | true =>
        rw [sub i hv] at h1
        cases h1
    rw [h1, h2]
/-- the least of a list of fractions -/
theorem fold_min : ∀ (l : List (Rat × Nat)) (m : Rat), (l.foldl (fun m q => min m q.1) m = m ∨ ∃ q ∈ l, l.foldl (fun m q => min m q.1) m = q.1) ∧ l.foldl (fun m q => min m q.1) m ≤ m ∧ ∀ q ∈ l, l.foldl (fun m q => min m q.1) m ≤ q.1
  | [], m => ⟨Or.inl rfl, Rat.le_refl, fun _ h => by simp at h⟩
  | x :: l, m => by
    obtain ⟨h1, h2, h3⟩ := fold_min l (min m x.1)
    rw [List.foldl_cons]
    have hm1 : min m x.1 ≤ m := by
      rw [Rat.min_def]
      split
      · exact Rat.le_refl
      · rename_i h
        exact (Rat.le_total (a := m) (b := x.1)).resolve_left h
    have hm2 : min m x.1 ≤ x.1 := by
      rw [Rat.min_def]
      split
      · assumption
      · exact Rat.le_refl
    refine ⟨?_, Rat.le_trans h2 hm1, fun q hq => ?_⟩
    · rcases h1 with h1 | ⟨q, hq, h1⟩
      · rw [h1, Rat.min_def]
        split
        · exact Or.inl rfl
        · exact Or.inr ⟨x, List.mem_cons_self, rfl⟩
      · exact Or.inr ⟨q, List.mem_cons_of_mem _ hq, h1⟩
    · rcases List.mem_cons.mp hq with rfl | hq
      · exact Rat.le_trans h2 hm2
      · exact h3 q hq
theorem even_is {t u : Nat} (h : costL s.costs t < costL s.costs u) : Dr05.even s t u = some (mkRat (pu s u - pu s t) (costL s.costs u - costL s.costs t)) := by
  unfold Dr05.even
  rw [cost_eq, cost_eq, pay_eq, pay_eq, if_pos h, Rat.mkRat_eq_div]
theorem even_no {t u : Nat} (h : ¬ costL s.costs t < costL s.costs u) : Dr05.even s t u = none := by
  unfold Dr05.even
  rw [cost_eq, cost_eq, if_neg h]
/-- at the first even point the least falls -/
theorem falls {a b u t0 : Nat} {m : Rat} (hb : 0 < b) (hu : Dr05.least s a b = u) (ht0 : t0 < 2 ^ s.costs.length) (hc0 : costL s.costs t0 < costL s.costs u) (em : m = mkRat (pu s u - pu s t0) (costL s.costs u - costL s.costs t0))
    (hmin : ∀ t, t < 2 ^ s.costs.length → costL s.costs t < costL s.costs u → m ≤ mkRat (pu s u - pu s t) (costL s.costs u - costL s.costs t)) :
    0 ≤ m.num ∧ Dr05.least s m.num.toNat m.den ≠ u ∧ Dr05.least s m.num.toNat m.den &&& u = Dr05.least s m.num.toNat m.den := by
  obtain ⟨l1, l2⟩ := least_best s a b
  rw [hu] at l1 l2
  obtain ⟨u1, u2⟩ := mem_best.mp l1
  have ne0 : costL s.costs u - costL s.costs t0 ≠ 0 := by omega
  have em' := (eq_mk ne0).mp em
  have hdp : 0 < m.den := Rat.den_pos m
  have pnn : ∀ t, t < 2 ^ s.costs.length → costL s.costs t < costL s.costs u → (a : Int) * ((costL s.costs u - costL s.costs t : Nat) : Int) ≤ (b : Int) * (pu s u - pu s t) := fun t ht hc => by
    have z := gain_le.mp (u2 t ht)
    rw [show cu s u - cu s t = ((costL s.costs u - costL s.costs t : Nat) : Int) by unfold cu; omega] at z
    exact z
  have m0 : 0 ≤ m.num := by
    have z := pnn t0 ht0 hc0
    have z2 : 0 ≤ pu s u - pu s t0 := by
      have z3 : 0 ≤ (a : Int) * ((costL s.costs u - costL s.costs t0 : Nat) : Int) := Int.mul_nonneg (Int.natCast_nonneg _) (Int.natCast_nonneg _)
      exact Int.nonneg_of_mul_nonneg_right (Int.le_trans z3 z) (by omega)
    have z4 : 0 ≤ m.num * ((costL s.costs u - costL s.costs t0 : Nat) : Int) := by
      rw [em']
      exact Int.mul_nonneg z2 (Int.natCast_nonneg _)
    rw [Int.mul_comm] at z4
    exact Int.nonneg_of_mul_nonneg_right z4 (by omega)
  have hnum : ((m.num.toNat : Nat) : Int) = m.num := Int.toNat_of_nonneg m0
  -- gains at c / d against the even points
  have gl : ∀ {c d t : Nat}, 0 < d → t < 2 ^ s.costs.length → costL s.costs t < costL s.costs u → (c * m.den < m.num.toNat * d → Dr05.gain s c d t < Dr05.gain s c d u) ∧ (c * m.den ≤ m.num.toNat * d → Dr05.gain s c d t ≤ Dr05.gain s c d u) := by
    intro c d t hd ht hc
    have hle := (le_mk m (pu s u - pu s t) (C := costL s.costs u - costL s.costs t) (by omega)).mp (hmin t ht hc)
    have hC : (0 : Int) < ((costL s.costs u - costL s.costs t : Nat) : Int) := by omega
    have ecu : cu s u - cu s t = ((costL s.costs u - costL s.costs t : Nat) : Int) := by unfold cu; omega
    generalize ((costL s.costs u - costL s.costs t : Nat) : Int) = CC at hle hC ecu
    generalize hPP : pu s u - pu s t = PP at hle
    have hden : (0 : Int) < (m.den : Int) := by omega
    constructor
    · intro hlt
      have hlt' : (c : Int) * (m.den : Int) < m.num * (d : Int) := by
        have z := Int.ofNat_lt.mpr hlt
        rw [Int.natCast_mul, Int.natCast_mul, hnum] at z
        exact z
      refine Int.not_le.mp fun hh => ?_
      rw [gain_le] at hh
      rw [show cu s t - cu s u = -CC by omega, show pu s t - pu s u = -PP by omega, Int.mul_neg, Int.mul_neg] at hh
      have hh : (d : Int) * PP ≤ (c : Int) * CC := by omega
      have k1 := Int.mul_le_mul_of_nonneg_left hle (Int.natCast_nonneg d)
      have k2 := Int.mul_lt_mul_of_pos_right hlt' hC
      have k3 := Int.mul_le_mul_of_nonneg_right hh (Int.le_of_lt hden)
      have e1 : (d : Int) * (m.num * CC) = m.num * (d : Int) * CC := by rw [← Int.mul_assoc, Int.mul_comm (d : Int)]
      have e2 : (d : Int) * (PP * (m.den : Int)) = (d : Int) * PP * (m.den : Int) := by rw [Int.mul_assoc]
      have e3 : (c : Int) * CC * (m.den : Int) = (c : Int) * (m.den : Int) * CC := by rw [Int.mul_assoc, Int.mul_comm CC, Int.mul_assoc]
      rw [e1, e2] at k1
      rw [e3] at k3
      omega
    · intro hlt
      have hlt' : (c : Int) * (m.den : Int) ≤ m.num * (d : Int) := by
        have z := Int.ofNat_le.mpr hlt
        rw [Int.natCast_mul, Int.natCast_mul, hnum] at z
        exact z
      rw [gain_le, ecu, hPP]
      refine Int.le_of_mul_le_mul_right (a := (m.den : Int)) ?_ hden
      have k1 := Int.mul_le_mul_of_nonneg_left hle (Int.natCast_nonneg d)
      have k2 := Int.mul_le_mul_of_nonneg_right hlt' (Int.le_of_lt hC)
      have e1 : (d : Int) * (m.num * CC) = m.num * (d : Int) * CC := by rw [← Int.mul_assoc, Int.mul_comm (d : Int)]
      have e2 : (d : Int) * (PP * (m.den : Int)) = (d : Int) * PP * (m.den : Int) := by rw [Int.mul_assoc]
      have e3 : (c : Int) * CC * (m.den : Int) = (c : Int) * (m.den : Int) * CC := by rw [Int.mul_assoc, Int.mul_comm CC, Int.mul_assoc]
      rw [e1, e2] at k1
      rw [e3]
      omega
  -- the even point lies above the factor
  have habove : a * m.den < m.num.toNat * b := by
    refine Nat.not_le.mp fun hh => ?_
    have z := pnn t0 ht0 hc0
    have hh' : m.num * (b : Int) ≤ (a : Int) * (m.den : Int) := by
      have y := Int.ofNat_le.mpr hh
      rw [Int.natCast_mul, Int.natCast_mul, hnum] at y
      exact y
    -- then t0 is as good as u at a / b, and cheaper: within u's best
    have tb : t0 ∈ Dr05.best s a b := by
      refine mem_best.mpr ⟨ht0, fun v hv => Int.le_trans (u2 v hv) ?_⟩
      rw [gain_le]
      have ecu : cu s t0 - cu s u = -((costL s.costs u - costL s.costs t0 : Nat) : Int) := by unfold cu; omega
      rw [ecu, show pu s t0 - pu s u = -(pu s u - pu s t0) by omega, Int.mul_neg, Int.mul_neg]
      have hC : (0 : Int) < ((costL s.costs u - costL s.costs t0 : Nat) : Int) := by omega
      generalize ((costL s.costs u - costL s.costs t0 : Nat) : Int) = CC at em' hC z
      generalize pu s u - pu s t0 = PP at em' z
      have hden : (0 : Int) < (m.den : Int) := by omega
      have k : (b : Int) * PP ≤ (a : Int) * CC := by
        refine Int.le_of_mul_le_mul_right (a := (m.den : Int)) ?_ hden
        have k2 := Int.mul_le_mul_of_nonneg_right hh' (Int.le_of_lt hC)
        have e1 : (b : Int) * PP * (m.den : Int) = m.num * (b : Int) * CC := by rw [Int.mul_assoc, ← em', ← Int.mul_assoc, Int.mul_comm (b : Int)]
        have e3 : (a : Int) * CC * (m.den : Int) = (a : Int) * (m.den : Int) * CC := by rw [Int.mul_assoc, Int.mul_comm CC, Int.mul_assoc]
        rw [e1, e3]
        exact k2
      omega
    have e := costL_mono s.costs (l2 t0 tb)
    omega
  have fall := least_falls (s := s) (c := m.num.toNat) (d := m.den) (t := t0) hb hdp hu (Nat.le_of_lt habove) (fun t ht hc => (gl hdp ht (by unfold cu at hc; omega)).2 (Nat.le_refl _)) ht0 (by unfold cu; omega) (by
    rw [gain_le]
    have ecu : cu s t0 - cu s u = -((costL s.costs u - costL s.costs t0 : Nat) : Int) := by unfold cu; omega
    rw [ecu, show pu s t0 - pu s u = -(pu s u - pu s t0) by omega, Int.mul_neg, Int.mul_neg, hnum, em', Int.mul_comm (m.den : Int)]
    exact Int.le_refl _)
  obtain ⟨f1, f2, f3⟩ := fall
  exact ⟨m0, f1, f2⟩
/-- a set that is the least somewhere is paid no less than a cheaper one -/
theorem paid_ge {a b u t : Nat} (hb : 0 < b) (hu : Dr05.least s a b = u) (ht : t < 2 ^ s.costs.length) (hc : costL s.costs t < costL s.costs u) : payL s.jobs t ≤ payL s.jobs u := by
  obtain ⟨l1, l2⟩ := least_best s a b
  rw [hu] at l1
  have z := gain_le.mp ((mem_best.mp l1).2 t ht)
  have z0 : 0 ≤ (a : Int) * (cu s u - cu s t) := Int.mul_nonneg (Int.natCast_nonneg _) (by unfold cu; omega)
  have z2 : 0 ≤ pu s u - pu s t := Int.nonneg_of_mul_nonneg_right (Int.le_trans z0 z) (by omega)
  unfold pu at z2
  omega
theorem gain_times (a b k t : Nat) : Dr05.gain s (a * k) (b * k) t = (k : Int) * Dr05.gain s a b t := by
  rw [gain_is, gain_is, Int.mul_sub, Int.natCast_mul, Int.natCast_mul]
  rw [Int.mul_comm (b : Int), Int.mul_comm (a : Int), Int.mul_assoc, Int.mul_assoc]
theorem best_times (a b : Nat) {k : Nat} (hk : 0 < k) : Dr05.best s (a * k) (b * k) = Dr05.best s a b := by
  have h : ∀ t, t ∈ Dr05.best s (a * k) (b * k) ↔ t ∈ Dr05.best s a b := by
    intro t
    rw [mem_best, mem_best]
    refine and_congr Iff.rfl (forall_congr' fun u => imp_congr Iff.rfl ?_)
    rw [gain_times, gain_times]
    exact ⟨fun h => Int.le_of_mul_le_mul_left h (by omega), fun h => Int.mul_le_mul_of_nonneg_left h (by omega)⟩
  unfold Dr05.best at h ⊢
  refine List.filter_congr fun t ht => ?_
  have z := h t
  rw [List.mem_filter, List.mem_filter] at z
  have z : (Dr05.gain s (a * k) (b * k) t == Dr05.most s (a * k) (b * k) (Dr05.sets s)) = true ↔ (Dr05.gain s a b t == Dr05.most s a b (Dr05.sets s)) = true := ⟨fun y => (z.mp ⟨ht, y⟩).2, fun y => (z.mpr ⟨ht, y⟩).2⟩
  exact Bool.eq_iff_iff.mpr z
theorem least_times (a b : Nat) {k : Nat} (hk : 0 < k) : Dr05.least s (a * k) (b * k) = Dr05.least s a b := by
  unfold Dr05.least
  rw [best_times a b hk]
/-- the least at a fraction, in lowest terms or not -/
theorem least_mk (L : Nat) {S : Nat} (hS : S ≠ 0) : Dr05.least s (mkRat (L : Int) S).num.toNat (mkRat (L : Int) S).den = Dr05.least s L S := by
  obtain ⟨k, hk, h1, h2⟩ := mk_parts (L : Int) hS
  generalize mkRat (L : Int) S = m at h1 h2
  have m0 : 0 ≤ m.num := by
    refine Int.not_lt.mp fun hh => ?_
    have z : m.num * (k : Int) < 0 := Int.mul_neg_of_neg_of_pos hh (by omega)
    omega
  have h3 : L = m.num.toNat * k := by
    have z : ((m.num.toNat * k : Nat) : Int) = m.num * (k : Int) := by rw [Int.natCast_mul, Int.toNat_of_nonneg m0]
    omega
  rw [h2]
  rw [h3]
  rw [least_times _ _ hk]
/-- **one step**: the first even point, and the least there -/
theorem steps_next {n a b u L S t0 : Nat} (hb : 0 < b) (hu : Dr05.least s a b = u) (ht0 : t0 < 2 ^ s.costs.length) (hc0 : costL s.costs t0 < costL s.costs u) (hL : (L : Int) = pu s u - pu s t0) (hS : S = costL s.costs u - costL s.costs t0)
    (hmin : ∀ t, t < 2 ^ s.costs.length → costL s.costs t < costL s.costs u → (L : Int) * ((costL s.costs u - costL s.costs t : Nat) : Int) ≤ (pu s u - pu s t) * (S : Int)) :
    Dr05.stepsFrom s (n + 1) u = (mkRat (L : Int) S, Dr05.least s L S) :: Dr05.stepsFrom s n (Dr05.least s L S) ∧ size s (Dr05.least s L S) < size s u := by
  have hS0 : S ≠ 0 := by omega
  have hmin' : ∀ t, t < 2 ^ s.costs.length → costL s.costs t < costL s.costs u → mkRat (L : Int) S ≤ mkRat (pu s u - pu s t) (costL s.costs u - costL s.costs t) := by
    intro t ht hc
    rw [le_mk _ _ (by omega)]
    have z := hmin t ht hc
    obtain ⟨k, hk, h1, h2⟩ := mk_parts (L : Int) hS0
    generalize mkRat (L : Int) S = m at h1 h2 ⊢
    generalize ((costL s.costs u - costL s.costs t : Nat) : Int) = CC at z ⊢
    generalize pu s u - pu s t = PP at z ⊢
    rw [h1, h2, Int.natCast_mul, ← Int.mul_assoc, Int.mul_right_comm] at z
    exact Int.le_of_mul_le_mul_right z (by omega)
  obtain ⟨f0, f1, f2⟩ := falls hb hu ht0 hc0 (m := mkRat (L : Int) S) (by rw [hL, hS]) hmin'
  obtain ⟨l1, _⟩ := least_best s a b
  rw [hu] at l1
  have hs := size_lt (s := s) (mem_best.mp l1).1 f2 f1
  rw [least_mk L hS0] at f1 f2 hs
  refine ⟨?_, hs⟩
  have hl : ∀ q : Rat × Nat, q ∈ ((Dr05.sets s).filterMap fun t => (Dr05.even s t u).map fun r => (r, t)) ↔ ∃ t, t < 2 ^ s.costs.length ∧ costL s.costs t < costL s.costs u ∧ q = (mkRat (pu s u - pu s t) (costL s.costs u - costL s.costs t), t) := by
    intro q
    rw [List.mem_filterMap]
    constructor
    · rintro ⟨t, ht, e⟩
      by_cases hc : costL s.costs t < costL s.costs u
      · rw [even_is hc] at e
        exact ⟨t, List.mem_range.mp ht, hc, (Option.some.inj e).symm⟩
      · rw [even_no hc] at e
        cases e
    · rintro ⟨t, ht, hc, rfl⟩
      exact ⟨t, List.mem_range.mpr ht, by rw [even_is hc]; rfl⟩
  have hq0 := (hl _).mpr ⟨t0, ht0, hc0, rfl⟩
  rw [Dr05.stepsFrom]
  generalize ((Dr05.sets s).filterMap fun t => (Dr05.even s t u).map fun r => (r, t)) = l at hl hq0
  cases l with
  | nil => simp at hq0
  | cons p r =>
    dsimp only
    obtain ⟨h1, h2, h3⟩ := fold_min r p.1
    have em : r.foldl (fun m q => min m q.1) p.1 = mkRat (L : Int) S := by
      refine Rat.le_antisymm ?_ ?_
      · rw [hL, hS]
        rcases List.mem_cons.mp hq0 with hq | hq
        · subst hq
          exact h2
        · exact h3 _ hq
      · have hq : ∃ q ∈ p :: r, r.foldl (fun m q => min m q.1) p.1 = q.1 := by
          rcases h1 with h1 | ⟨q, hq, h1⟩
          · exact ⟨p, List.mem_cons_self, h1⟩
          · exact ⟨q, List.mem_cons_of_mem _ hq, h1⟩
        obtain ⟨q, hq, e⟩ := hq
        rw [e]
        obtain ⟨t, ht, hc, rfl⟩ := (hl q).mp hq
        exact hmin' t ht hc
    rw [em, least_mk L hS0, if_neg f1]
theorem steps_end {u : Nat} (h : costL s.costs u = 0) : ∀ n, Dr05.stepsFrom s n u = []
  | 0 => rfl
  | n + 1 => by
    rw [Dr05.stepsFrom]
    have e : ((Dr05.sets s).filterMap fun t => (Dr05.even s t u).map fun r => (r, t)) = [] := by
      rw [List.filterMap_eq_nil_iff]
      intro t ht
      rw [even_no (by omega)]
      rfl
    rw [e]
/-- a fraction's two numbers -/
theorem fraction_two (m : Nat) {b : Nat} (hb : b ≠ 0) : Dr05.fraction (mkRat (m : Int) b) = [((m / m.gcd b : Nat) : Int), ((b / m.gcd b : Nat) : Int)] := by
  have e : mkRat (m : Int) b = ((m : Int) : Rat) / (b : Rat) := by
    rw [Rat.mkRat_eq_div]
  rw [e, fraction_mk (m : Int) hb, Int.natAbs_natCast, Nat.gcd_comm b m, Int.natCast_ediv, Int.natCast_ediv]
end
end JM
/-! JFair: the shares' function over choices of jobs, by the tools that they need. Plain Lean. -/
namespace JM
open Dr05 (Shop Job)
theorem has_test (t i : Nat) : Dr01.has t (i + 1) = t.testBit i := by
  have e : Dr01.has t (i + 1) = bit t i := rfl
  rw [e, bit_test]
/-! ### numbers by their bits -/
def ofBits (g : Nat → Bool) (k : Nat) : Nat := ((List.range k).map fun p => if g p = true then 2 ^ p else 0).sum
theorem ofBits_succ (g : Nat → Bool) (k : Nat) : ofBits g (k + 1) = ofBits g k + (if g k = true then 2 ^ k else 0) := by
  unfold ofBits
  rw [List.range_succ, List.map_append, List.sum_append, List.map_cons, List.sum_cons]
  simp
theorem ofBits_lt (g : Nat → Bool) : ∀ k : Nat, ofBits g k < 2 ^ k
  | 0 => by
    show 0 < 1
    decide
  | k + 1 => by
    have ih := ofBits_lt g k
    rw [ofBits_succ, Nat.pow_succ]
    split <;> omega
theorem ofBits_test (g : Nat → Bool) : ∀ (k p : Nat), (ofBits g k).testBit p = (decide (p < k) && g p)
  | 0, p => by
    show (0 : Nat).testBit p = _
    rw [Nat.zero_testBit]
    simp
  | k + 1, p => by
    have ih := ofBits_test g k
    have hl := ofBits_lt g k
    rw [ofBits_succ]
    by_cases hk : p = k
    · subst hk
      rw [decide_eq_true (Nat.lt_succ_self p), Bool.true_and]
      cases hg : g p with
      | true =>
        rw [if_pos rfl, Nat.add_comm, Nat.testBit_two_pow_add_eq, ih p, decide_eq_false (Nat.lt_irrefl p)]
        rfl
      | false =>
        rw [if_neg Bool.false_ne_true, Nat.add_zero, ih p, decide_eq_false (Nat.lt_irrefl p)]
        rfl
    · by_cases hp : p < k
      · rw [decide_eq_true (show p < k + 1 by omega), Bool.true_and]
        split
        · rw [Nat.add_comm, Nat.testBit_two_pow_add_gt hp, ih p, decide_eq_true hp, Bool.true_and]
        · rw [Nat.add_zero, ih p, decide_eq_true hp, Bool.true_and]
      · rw [decide_eq_false (show ¬ p < k + 1 by omega), Bool.false_and]
        refine Nat.testBit_lt_two_pow (Nat.lt_of_lt_of_le ?_ (Nat.pow_le_pow_right (by decide) (show k + 1 ≤ p by omega)))
        rw [Nat.pow_succ]
        split <;> omega
theorem zip_range {α : Type} (l : List α) (d : α) : (List.range l.length).zip l = (List.range l.length).map fun p => (p, l.getD p d) := by
  apply List.ext_getElem
  · simp
  · intro i h1 h2
    simp [List.getD_eq_getElem?_getD]
    have h3 : i < l.length := by simpa using h1
    simp [h3]
def job0 : Job := ⟨0, 0, 0⟩
/-! ### what the jobs of a choice need -/
def un (l : List Job) (S : Nat) : Nat := ((List.range l.length).filter fun p => S.testBit p).foldl (fun acc p => acc ||| (l.getD p job0).needs) 0
theorem fold_or_test (g : Nat → Nat) (i : Nat) : ∀ (ps : List Nat) (acc : Nat), (ps.foldl (fun acc p => acc ||| g p) acc).testBit i = (acc.testBit i || ps.any fun p => (g p).testBit i)
  | [], acc => by simp
  | p :: ps, acc => by
    rw [List.foldl_cons, fold_or_test g i ps, Nat.testBit_or, List.any_cons, Bool.or_assoc]
theorem un_test (l : List Job) (S i : Nat) : (un l S).testBit i = (List.range l.length).any fun p => S.testBit p && (l.getD p job0).needs.testBit i := by
  unfold un
  rw [fold_or_test, Nat.zero_testBit, Bool.false_or, List.any_filter]
theorem un_or (l : List Job) (S T : Nat) : un l (S ||| T) = un l S ||| un l T := by
  apply Nat.eq_of_testBit_eq
  intro i
  rw [Nat.testBit_or, un_test, un_test, un_test]
  generalize List.range l.length = ps
  induction ps with
  | nil => rfl
  | cons p ps ih =>
    rw [List.any_cons, List.any_cons, List.any_cons, ih, Nat.testBit_or]
    cases S.testBit p <;> cases T.testBit p <;> cases (l.getD p job0).needs.testBit i <;> cases (ps.any fun p => S.testBit p && (l.getD p job0).needs.testBit i) <;> cases (ps.any fun p => T.testBit p && (l.getD p job0).needs.testBit i) <;> rfl
theorem un_zero (l : List Job) : un l 0 = 0 := by
  apply Nat.eq_of_testBit_eq
  intro i
  rw [un_test]
  simp
/-- what a choice's tools cost -/
theorem val_cost (s : Shop) (l : List Job) {S : Nat} (hS : S < 2 ^ l.length) : Dr01.val (Dr05.costOf s l) S = (costL s.costs (un l S) : Int) := by
  unfold Dr01.val Dr05.costOf Dr01.ofCover
  dsimp only
  rw [List.getD_eq_getElem?_getD, List.getElem?_map, List.getElem?_range hS]
  simp only [Option.map_some, Option.getD_some]
  unfold Dr05.tools
  rw [List.map_map, List.map_map, cost_cov]
  unfold cov
  generalize hr : List.range s.costs.length = r
  clear hr
  induction r with
  | nil => rfl
  | cons i r ih =>
    rw [List.map_cons, List.foldr_cons, ih, List.map_cons, List.sum_cons, Int.natCast_add]
    refine congrArg (· + _) ?_
    show (if Dr01.meet (((((List.range l.length).zip l).map fun x => if Dr01.has x.2.needs (i + 1) = true then 2 ^ x.1 else 0)).foldr (fun a n => a + n) 0) S = 0 then (0 : Int) else ((s.costs.getD (i + 1 - 1) 0 : Nat) : Int)) = _
    rw [zip_range l job0, List.map_map, foldr_sum]
    have e : (List.map ((fun x : Nat × Job => if Dr01.has x.2.needs (i + 1) = true then 2 ^ x.1 else 0) ∘ fun p => (p, l.getD p job0)) (List.range l.length)).sum = ofBits (fun p => (l.getD p job0).needs.testBit i) l.length := by
      unfold ofBits
      refine congrArg List.sum (congrArg (fun f => (List.range l.length).map f) (funext fun p => ?_))
      show (if Dr01.has (l.getD p job0).needs (i + 1) = true then 2 ^ p else 0) = _
      rw [has_test]
    rw [e]
    have hz : (Dr01.meet (ofBits (fun p => (l.getD p job0).needs.testBit i) l.length) S = 0) ↔ (un l S).testBit i = false := by
      rw [un_test, List.any_eq_false]
      constructor
      · intro h p hp
        have hp := List.mem_range.mp hp
        have z : (Dr01.meet (ofBits (fun p => (l.getD p job0).needs.testBit i) l.length) S).testBit p = false := by rw [h, Nat.zero_testBit]
        have z : ((ofBits (fun p => (l.getD p job0).needs.testBit i) l.length) &&& S).testBit p = false := z
        rw [Nat.testBit_and, ofBits_test, decide_eq_true hp, Bool.true_and] at z
        rw [Bool.and_comm, z]
        decide
      · intro h
        apply Nat.eq_of_testBit_eq
        intro p
        show ((ofBits (fun p => (l.getD p job0).needs.testBit i) l.length) &&& S).testBit p = (0 : Nat).testBit p
        rw [Nat.testBit_and, ofBits_test, Nat.zero_testBit]
        by_cases hp : p < l.length
        · have z := h p (List.mem_range.mpr hp)
          rw [decide_eq_true hp, Bool.true_and, Bool.and_comm]
          simpa using z
        · rw [decide_eq_false hp]
          rfl
    by_cases ht : (un l S).testBit i = true
    · rw [if_neg, if_pos ht]
      · rfl
      · intro z
        rw [hz.mp z] at ht
        cases ht
    · rw [if_pos (hz.mpr (by simpa using ht)), if_neg ht]
      rfl
/-! ### costs apart -/
/-- what of a is not in b -/
def less (a b : Nat) : Nat := a ^^^ (a &&& b)
theorem less_test (a b i : Nat) : (less a b).testBit i = (a.testBit i && !b.testBit i) := by
  unfold less
  rw [Nat.testBit_xor, Nat.testBit_and]
  cases a.testBit i <;> cases b.testBit i <;> rfl
theorem or_less (a b : Nat) : less a b ||| b = a ||| b := by
  apply Nat.eq_of_testBit_eq
  intro i
  rw [Nat.testBit_or, Nat.testBit_or, less_test]
  cases a.testBit i <;> cases b.testBit i <;> rfl
theorem and_less (a b : Nat) : less a b &&& b = 0 := by
  apply Nat.eq_of_testBit_eq
  intro i
  rw [Nat.testBit_and, Nat.zero_testBit, less_test]
  cases a.testBit i <;> cases b.testBit i <;> rfl
theorem cost_less (cs : List Nat) (a b : Nat) : costL cs (a ||| b) = costL cs (less a b) + costL cs b := by
  have h := costL_mod cs (less a b) b
  rw [and_less, costL_zero, or_less] at h
  omega
/-! ### the poorest -/
theorem costOf_many (s : Shop) (l : List Job) : (Dr05.costOf s l).many = l.length := rfl
/-- how many a choice has -/
def pop (k S : Nat) : Nat := ((List.range k).filter fun p => S.testBit p).length
theorem size_pop (s : Shop) (l : List Job) (S : Nat) : Dr02.size (Dr05.costOf s l) S = pop l.length S := by
  unfold Dr02.size Dr01.things pop
  rw [costOf_many, List.filter_map, List.length_map]
  refine congrArg (fun f => ((List.range l.length).filter f).length) (funext fun p => ?_)
  exact has_test S p
theorem pop_pos {k S : Nat} (h0 : S ≠ 0) (hS : S < 2 ^ k) : 0 < pop k S := by
  refine List.length_pos_iff.mpr fun h => h0 (Nat.eq_of_testBit_eq fun i => ?_)
  rw [Nat.zero_testBit]
  by_cases hi : i < k
  · cases ht : S.testBit i with
    | false => rfl
    | true =>
      have z : i ∈ (List.range k).filter fun p => S.testBit p := List.mem_filter.mpr ⟨List.mem_range.mpr hi, ht⟩
      rw [h] at z
      simp at z
  · exact Nat.testBit_lt_two_pow (Nat.lt_of_lt_of_le hS (Nat.pow_le_pow_right (by decide) (by omega)))
/-- what a choice has for each, where the tools of T are paid -/
def per (s : Shop) (l : List Job) (T S : Nat) : Rat := mkRat (costL s.costs (less (un l S) (un l T)) : Nat) (pop l.length S)
theorem ratio_per (s : Shop) (l : List Job) {S T : Nat} (hS : S < 2 ^ l.length) (hT : T < 2 ^ l.length) :
    ((Dr01.val (Dr05.costOf s l) (Dr01.join S T) - Dr01.val (Dr05.costOf s l) T : Int) : Rat) / (Dr02.size (Dr05.costOf s l) S : Rat) = per s l T S := by
  have hj : Dr01.join S T < 2 ^ l.length := or_lt hS hT
  rw [val_cost s l hj, val_cost s l hT, size_pop]
  have e : un l (Dr01.join S T) = un l S ||| un l T := un_or l S T
  rw [e, cost_less]
  unfold per
  rw [Rat.mkRat_eq_div]
  refine congrArg (fun z : Int => (z : Rat) / _) ?_
  omega
/-- the choices that are left -/
def leftC (k T : Nat) : List Nat := (List.range (2 ^ k)).filter fun S => S &&& T == 0 && S != 0
theorem mem_leftC {k T S : Nat} : S ∈ leftC k T ↔ S < 2 ^ k ∧ S &&& T = 0 ∧ S ≠ 0 := by
  unfold leftC
  rw [List.mem_filter, List.mem_range, Bool.and_eq_true, beq_iff_eq, bne_iff_ne]
theorem fold_minR (g : Nat → Rat) : ∀ (l : List Nat) (m : Rat), (l.foldl (fun m q => min m (g q)) m = m ∨ ∃ q ∈ l, l.foldl (fun m q => min m (g q)) m = g q) ∧ l.foldl (fun m q => min m (g q)) m ≤ m ∧ ∀ q ∈ l, l.foldl (fun m q => min m (g q)) m ≤ g q
  | [], m => ⟨Or.inl rfl, Rat.le_refl, fun _ h => by simp at h⟩
  | x :: l, m => by
    obtain ⟨h1, h2, h3⟩ := fold_minR g l (min m (g x))
    rw [List.foldl_cons]
    have hm1 : min m (g x) ≤ m := by
      rw [Rat.min_def]
      split
      · exact Rat.le_refl
      · rename_i h
        exact (Rat.le_total (a := m) (b := g x)).resolve_left h
    have hm2 : min m (g x) ≤ g x := by
      rw [Rat.min_def]
      split
      · assumption
      · exact Rat.le_refl
    refine ⟨?_, Rat.le_trans h2 hm1, fun q hq => ?_⟩
    · rcases h1 with h1 | ⟨q, hq, h1⟩
      · rw [h1, Rat.min_def]
        split
        · exact Or.inl rfl
        · exact Or.inr ⟨x, List.mem_cons_self, rfl⟩
      · exact Or.inr ⟨q, List.mem_cons_of_mem _ hq, h1⟩
    · rcases List.mem_cons.mp hq with rfl | hq
      · exact Rat.le_trans h2 hm2
      · exact h3 q hq
theorem all_sub {k T : Nat} (hT : T < 2 ^ k) : (2 ^ k - 1 - T) &&& T = 0 ∧ 2 ^ k - 1 - T < 2 ^ k := by
  have hp := Nat.two_pow_pos k
  refine ⟨?_, by omega⟩
  apply Nat.eq_of_testBit_eq
  intro i
  rw [Nat.zero_testBit, Nat.testBit_and, show 2 ^ k - 1 - T = 2 ^ k - (T + 1) by omega, Nat.testBit_two_pow_sub_succ hT]
  cases T.testBit i <;> simp
/-- **the poorest** of what is left: the least that a choice has for each, and all such choices together -/
theorem poorest_is (s : Shop) (l : List Job) {T : Nat} (hT : T < 2 ^ l.length) (hne : T ≠ 2 ^ l.length - 1) : ∃ m : Rat, (∃ S ∈ leftC l.length T, m = per s l T S) ∧ (∀ S ∈ leftC l.length T, m ≤ per s l T S) ∧
    Dr02.poorest (Dr05.costOf s l) T = (((leftC l.length T).filter fun S => per s l T S == m).foldl Nat.lor 0, m) := by
  have hp := Nat.two_pow_pos l.length
  obtain ⟨a1, a2⟩ := all_sub hT
  have hall : 2 ^ l.length - 1 - T ∈ leftC l.length T := mem_leftC.mpr ⟨a2, a1, by omega⟩
  have key : ∀ S ∈ leftC l.length T, ((Dr01.val (Dr05.costOf s l) (Dr01.join S T) - Dr01.val (Dr05.costOf s l) T : Int) : Rat) / (Dr02.size (Dr05.costOf s l) S : Rat) = per s l T S := fun S hS => ratio_per s l (mem_leftC.mp hS).1 hT
  obtain ⟨h1, h2, h3⟩ := fold_minR (per s l T) (leftC l.length T) (per s l T (2 ^ l.length - 1 - T))
  refine ⟨(leftC l.length T).foldl (fun m q => min m (per s l T q)) (per s l T (2 ^ l.length - 1 - T)), ?_, h3, ?_⟩
  · rcases h1 with h1 | ⟨q, hq, h1⟩
    · exact ⟨_, hall, h1⟩
    · exact ⟨q, hq, h1⟩
  · unfold Dr02.poorest Dr02.all
    rw [costOf_many]
    have e0 : ((Dr01.sets (Dr05.costOf s l)).filter fun S => Dr01.meet S T == 0 && S != 0) = leftC l.length T := rfl
    rw [e0]
    dsimp only
    rw [key _ hall]
    have e1 : ∀ (ll : List Nat) (m : Rat), (∀ S ∈ ll, S ∈ leftC l.length T) → ll.foldl (fun m S => min m (((Dr01.val (Dr05.costOf s l) (Dr01.join S T) - Dr01.val (Dr05.costOf s l) T : Int) : Rat) / (Dr02.size (Dr05.costOf s l) S : Rat))) m = ll.foldl (fun m S => min m (per s l T S)) m := by
      intro ll
      induction ll with
      | nil => intro m _; rfl
      | cons x ll ih =>
        intro m h
        rw [List.foldl_cons, List.foldl_cons, key x (h x List.mem_cons_self), ih _ fun S hS => h S (List.mem_cons_of_mem _ hS)]
    rw [e1 _ _ fun S hS => hS]
    refine Prod.ext ?_ rfl
    show List.foldl Dr01.join 0 _ = List.foldl Nat.lor 0 _
    refine congrArg (List.foldl Nat.lor 0) (List.filter_congr fun S hS => ?_)
    rw [key S hS]
end JM
/-! JMoney: the best with so much money: the first of those that leave most. Plain Lean. -/
namespace JM
open Dr05 (Shop Job)
theorem fold_first (g : Nat → Int) : ∀ (l : List Nat) (m : Nat), l.Pairwise (· < ·) → (∀ t ∈ l, m ≤ t) →
    (l.foldl (fun m t => if g m < g t then t else m) m = m ∨ l.foldl (fun m t => if g m < g t then t else m) m ∈ l) ∧ g m ≤ g (l.foldl (fun m t => if g m < g t then t else m) m) ∧
    (g m = g (l.foldl (fun m t => if g m < g t then t else m) m) → l.foldl (fun m t => if g m < g t then t else m) m = m) ∧
    ∀ t ∈ l, g t ≤ g (l.foldl (fun m t => if g m < g t then t else m) m) ∧ (g t = g (l.foldl (fun m t => if g m < g t then t else m) m) → l.foldl (fun m t => if g m < g t then t else m) m ≤ t)
  | [], m, _, _ => ⟨Or.inl rfl, Int.le_refl _, fun _ => rfl, fun _ h => by simp at h⟩
  | x :: l, m, hs, hm => by
    rw [List.pairwise_cons] at hs
    rw [List.foldl_cons]
    by_cases hc : g m < g x
    · rw [if_pos hc]
      obtain ⟨h1, h2, h3, h4⟩ := fold_first g l x hs.2 fun t ht => Nat.le_of_lt (hs.1 t ht)
      refine ⟨Or.inr ?_, by omega, fun e => by omega, fun t ht => ?_⟩
      · rcases h1 with h1 | h1
        · rw [h1]
          exact List.mem_cons_self
        · exact List.mem_cons_of_mem _ h1
      · rcases List.mem_cons.mp ht with rfl | ht
        · exact ⟨h2, fun e => by rw [h3 e]; exact Nat.le_refl _⟩
        · exact h4 t ht
    · rw [if_neg hc]
      obtain ⟨h1, h2, h3, h4⟩ := fold_first g l m hs.2 fun t ht => hm t (List.mem_cons_of_mem _ ht)
      refine ⟨h1.imp id fun h => List.mem_cons_of_mem _ h, h2, h3, fun t ht => ?_⟩
      rcases List.mem_cons.mp ht with rfl | ht
      · refine ⟨by omega, fun e => ?_⟩
        have z : g m = g (l.foldl (fun m t => if g m < g t then t else m) m) := by omega
        rw [h3 z]
        exact hm _ List.mem_cons_self
      · exact h4 t ht
theorem money_is (s : Shop) (b : Nat) : Dr05.withMoney s b < 2 ^ s.costs.length ∧ costL s.costs (Dr05.withMoney s b) ≤ b ∧
    ∀ t, t < 2 ^ s.costs.length → costL s.costs t ≤ b → left s t ≤ left s (Dr05.withMoney s b) ∧ (left s t = left s (Dr05.withMoney s b) → Dr05.withMoney s b ≤ t) := by
  have e : Dr05.withMoney s b = ((Dr05.sets s).filter fun t => decide (Dr05.cost s t ≤ b)).foldl (fun m t => if left s m < left s t then t else m) 0 := by
    unfold Dr05.withMoney
    refine congrArg (fun f => List.foldl f 0 _) (funext fun m => funext fun t => ?_)
    rw [gain_eq, gain_eq]
  have hs : ((Dr05.sets s).filter fun t => decide (Dr05.cost s t ≤ b)).Pairwise (· < ·) := List.Pairwise.filter _ List.pairwise_lt_range
  obtain ⟨h1, h2, h3, h4⟩ := fold_first (left s) _ 0 hs fun t _ => Nat.zero_le t
  rw [← e] at h1 h2 h3 h4
  have hin : Dr05.withMoney s b < 2 ^ s.costs.length ∧ costL s.costs (Dr05.withMoney s b) ≤ b := by
    rcases h1 with h1 | h1
    · rw [h1, costL_zero]
      exact ⟨Nat.two_pow_pos _, Nat.zero_le _⟩
    · obtain ⟨m1, m2⟩ := List.mem_filter.mp h1
      have m2 := of_decide_eq_true m2
      rw [cost_eq] at m2
      exact ⟨List.mem_range.mp m1, m2⟩
  refine ⟨hin.1, hin.2, fun t ht hb => h4 t (List.mem_filter.mpr ⟨List.mem_range.mpr ht, decide_eq_true ?_⟩)⟩
  rw [cost_eq]
  exact hb
end JM
/-! JShare: the shares, by lists of jobs. Plain Lean. -/
namespace JM
open Dr05 (Shop Job)
/-! ### fractions of natural numbers -/
theorem mk_le {a b x y : Nat} (hb : b ≠ 0) (hy : y ≠ 0) : mkRat (a : Int) b ≤ mkRat (x : Int) y ↔ a * y ≤ x * b := by
  rw [le_mk _ _ hy]
  obtain ⟨k, hk, h1, h2⟩ := mk_parts (a : Int) hb
  generalize mkRat (a : Int) b = m at h1 h2
  have e : (a * y ≤ x * b) ↔ (m.num * (y : Int)) * (k : Int) ≤ ((x : Int) * (m.den : Int)) * (k : Int) := by
    rw [← Int.ofNat_le, Int.natCast_mul, Int.natCast_mul, h1, h2, Int.natCast_mul, Int.mul_right_comm, Int.mul_assoc (x : Int)]
  rw [e]
  exact ⟨fun z => Int.mul_le_mul_of_nonneg_right z (Int.natCast_nonneg k), fun z => Int.le_of_mul_le_mul_right z (by omega)⟩
/-! ### tools that cost nothing any more -/
def zero (cs : List Nat) (t : Nat) : List Nat := (List.range cs.length).map fun i => if t.testBit i = true then 0 else cs.getD i 0
theorem zero_len (cs : List Nat) (t : Nat) : (zero cs t).length = cs.length := by
  unfold zero
  rw [List.length_map, List.length_range]
theorem zero_get (cs : List Nat) (t : Nat) {i : Nat} (h : i < cs.length) : (zero cs t).getD i 0 = if t.testBit i = true then 0 else cs.getD i 0 := by
  unfold zero
  rw [List.getD_eq_getElem?_getD, List.getElem?_map, List.getElem?_range h]
  rfl
theorem zero_no (cs : List Nat) : zero cs 0 = cs := by
  apply List.ext_getElem
  · exact zero_len cs 0
  · intro i h1 h2
    unfold zero
    simp [List.getD_eq_getElem?_getD, h2]
theorem zero_zero (cs : List Nat) (a b : Nat) : zero (zero cs a) b = zero cs (a ||| b) := by
  have e : zero (zero cs a) b = (List.range cs.length).map fun i => if b.testBit i = true then 0 else (zero cs a).getD i 0 := by
    show (List.range (zero cs a).length).map _ = _
    rw [zero_len]
  rw [e]
  refine List.map_congr_left fun i hi => ?_
  rw [zero_get cs a (List.mem_range.mp hi), Nat.testBit_or]
  cases a.testBit i <;> cases b.testBit i <;> rfl
theorem costL_zeroed (cs : List Nat) (t u : Nat) : costL (zero cs t) u = costL cs (less u t) := by
  rw [cost_cov, cost_cov, zero_len]
  unfold cov
  refine congrArg List.sum (List.map_congr_left fun i hi => ?_)
  show (if u.testBit i = true then (zero cs t).getD i 0 else 0) = _
  rw [zero_get cs t (List.mem_range.mp hi), less_test]
  cases u.testBit i <;> cases t.testBit i <;> rfl
/-! ### choices -/
def selJ (l : List Job) (S : Nat) : List Job := ((List.range l.length).filter fun p => S.testBit p).map fun p => l.getD p job0
def othJ (l : List Job) (T : Nat) : List Job := ((List.range l.length).filter fun p => !T.testBit p).map fun p => l.getD p job0
def pickJ (o : List Job) (c : Nat) : List Job := ((List.range o.length).filter (bit c)).map fun i => o.getD i job0
def choices (o : List Job) : List (List Job) := (List.range (2 ^ o.length - 1)).map fun c => pickJ o (c + 1)
def nd (qs : List Job) : Nat := (qs.map fun j => j.needs).foldl Nat.lor 0
theorem nd_sel (l : List Job) (S : Nat) : nd (selJ l S) = un l S := by
  unfold nd selJ un
  rw [List.map_map, List.foldl_map]
  rfl
theorem len_sel (l : List Job) (S : Nat) : (selJ l S).length = pop l.length S := by
  unfold selJ pop
  rw [List.length_map]
theorem sub_filter {α : Type} [DecidableEq α] : ∀ {q ps : List α}, q.Sublist ps → ps.Nodup → q = ps.filter fun x => decide (x ∈ q)
  | _, _, .slnil, _ => rfl
  | q, x :: ps, .cons _ h, nd => by
    rw [List.nodup_cons] at nd
    have hx : ¬ x ∈ q := fun z => nd.1 (h.subset z)
    rw [List.filter_cons, if_neg (by simpa using hx)]
    exact sub_filter h nd.2
  | x :: q, _ :: ps, .cons_cons _ h, nd => by
    rw [List.nodup_cons] at nd
    rw [List.filter_cons, if_pos (by simp)]
    refine congrArg (x :: ·) ?_
    rw [sub_filter h nd.2]
    refine List.filter_congr fun y hy => decide_eq_decide.mpr ?_
    rw [← sub_filter h nd.2]
    rw [List.mem_cons]
    exact ⟨Or.inr, fun z => z.resolve_left fun e => nd.1 (e ▸ hy)⟩
def pickN (ps : List Nat) (c : Nat) : List Nat := ((List.range ps.length).filter (bit c)).map fun i => ps.getD i 0
theorem getD_range {α : Type} (l : List α) (d : α) : (List.range l.length).map (fun i => l.getD i d) = l := by
  apply List.ext_getElem
  · simp
  · intro i h1 h2
    simp [List.getD_eq_getElem?_getD, h2]
theorem pickN_sub (ps : List Nat) (c : Nat) : (pickN ps c).Sublist ps := by
  have h : (pickN ps c).Sublist ((List.range ps.length).map fun i => ps.getD i 0) := List.Sublist.map _ List.filter_sublist
  rw [getD_range] at h
  exact h
theorem pickN_all (ps : List Nat) (f : Nat → Bool) : ∃ c, c < 2 ^ ps.length ∧ pickN ps c = ps.filter f := by
  refine ⟨ofBits (fun i => f (ps.getD i 0)) ps.length, ofBits_lt _ _, ?_⟩
  have e : ps.filter f = ((List.range ps.length).map fun i => ps.getD i 0).filter f := by rw [getD_range]
  rw [e, List.filter_map]
  unfold pickN
  refine congrArg (List.map _) (List.filter_congr fun i hi => ?_)
  rw [bit_test, ofBits_test, decide_eq_true (List.mem_range.mp hi), Bool.true_and]
  rfl
theorem pickN_ne {ps : List Nat} {c : Nat} (h0 : c ≠ 0) (h : c < 2 ^ ps.length) : pickN ps c ≠ [] := by
  have z := pop_pos h0 h
  unfold pop at z
  intro y
  have y := congrArg List.length y
  unfold pickN at y
  rw [List.length_map] at y
  have e : ((List.range ps.length).filter (bit c)) = (List.range ps.length).filter fun p => c.testBit p := List.filter_congr fun i _ => bit_test c i
  rw [e] at y
  simp at y
  simp at z
  obtain ⟨i, hi1, hi2⟩ := z
  rw [y i hi1] at hi2
  cases hi2
theorem pickJ_map (g : Nat → Job) (ps : List Nat) (c : Nat) : pickJ (ps.map g) c = (pickN ps c).map g := by
  unfold pickJ pickN
  rw [List.length_map, List.map_map]
  refine List.map_congr_left fun i hi => ?_
  have hi := List.mem_range.mp (List.mem_filter.mp hi).1
  show (ps.map g).getD i job0 = g (ps.getD i 0)
  rw [List.getD_eq_getElem?_getD, List.getD_eq_getElem?_getD, List.getElem?_map, List.getElem?_eq_getElem hi]
  rfl
theorem mem_choices (l : List Job) {T : Nat} (qs : List Job) : qs ∈ choices (othJ l T) ↔ ∃ S ∈ leftC l.length T, qs = selJ l S := by
  unfold choices
  rw [List.mem_map]
  have ek : (othJ l T).length = ((List.range l.length).filter fun p => !T.testBit p).length := by
    unfold othJ
    rw [List.length_map]
  have er : ∀ c, pickJ (othJ l T) c = (pickN ((List.range l.length).filter fun p => !T.testBit p) c).map fun p => l.getD p job0 := fun c => pickJ_map _ _ c
  rw [ek]
  generalize hps : ((List.range l.length).filter fun p => !T.testBit p) = ps at er
  have hsub : ps.Sublist (List.range l.length) := by rw [← hps]; exact List.filter_sublist
  constructor
  · rintro ⟨c, hc, rfl⟩
    have hc := List.mem_range.mp hc
    rw [er]
    have s1 := (pickN_sub ps (c + 1)).trans hsub
    have e1 := sub_filter s1 List.nodup_range
    have hne := pickN_ne (ps := ps) (c := c + 1) (by omega) (by omega)
    have hps2 : ∀ p ∈ pickN ps (c + 1), T.testBit p = false := fun p hp => by
      have z := (pickN_sub ps (c + 1)).subset hp
      rw [← hps] at z
      simpa using (List.mem_filter.mp z).2
    generalize pickN ps (c + 1) = q at s1 e1 hne hps2
    have et : ∀ p, (ofBits (fun p => decide (p ∈ q)) l.length).testBit p = decide (p ∈ q) := fun p => by
      rw [ofBits_test]
      by_cases hp : p ∈ q
      · rw [decide_eq_true (List.mem_range.mp (s1.subset hp)), Bool.true_and]
      · rw [decide_eq_false hp, Bool.and_false]
    refine ⟨ofBits (fun p => decide (p ∈ q)) l.length, mem_leftC.mpr ⟨ofBits_lt _ _, ?_, fun z => ?_⟩, ?_⟩
    · apply Nat.eq_of_testBit_eq
      intro i
      rw [Nat.testBit_and, Nat.zero_testBit, et]
      by_cases hi : i ∈ q
      · rw [hps2 i hi, Bool.and_false]
      · rw [decide_eq_false hi, Bool.false_and]
    · obtain ⟨x, r, rfl⟩ : ∃ x r, q = x :: r := by
        cases q with
        | nil => exact absurd rfl hne
        | cons x r => exact ⟨x, r, rfl⟩
      have y := et x
      rw [z, Nat.zero_testBit] at y
      simp at y
    · unfold selJ
      rw [List.filter_congr (fun p _ => et p), ← e1]
  · rintro ⟨S, hS, rfl⟩
    obtain ⟨s1, s2, s3⟩ := mem_leftC.mp hS
    obtain ⟨c, hc, e⟩ := pickN_all ps fun p => S.testBit p
    have ef : ps.filter (fun p => S.testBit p) = (List.range l.length).filter fun p => S.testBit p := by
      rw [← hps, List.filter_filter]
      refine List.filter_congr fun p _ => ?_
      have z := congrArg (fun n => Nat.testBit n p) s2
      simp only [Nat.testBit_and, Nat.zero_testBit] at z
      cases h1 : S.testBit p <;> cases h2 : T.testBit p <;> simp [h1, h2] at z ⊢
    rw [ef] at e
    have c0 : c ≠ 0 := by
      rintro rfl
      have z := pop_pos s3 s1
      unfold pop at z
      rw [← e] at z
      have y : pickN ps 0 = [] := by
        unfold pickN
        rw [List.filter_eq_nil_iff.mpr fun i _ => by rw [bit_test, Nat.zero_testBit]; decide]
        rfl
      rw [y] at z
      simp at z
    refine ⟨c - 1, List.mem_range.mpr (by omega), ?_⟩
    rw [show c - 1 + 1 = c by omega, er, e]
    rfl
/-! ### what a choice pays -/
def shr (cs : List Nat) (qs : List Job) : Nat × Nat := (costL cs (nd qs), qs.length)
theorem shr_sel (s : Shop) (l : List Job) (T S : Nat) : shr (zero s.costs (un l T)) (selJ l S) = (costL s.costs (less (un l S) (un l T)), pop l.length S) := by
  unfold shr
  rw [costL_zeroed, nd_sel, len_sel]
theorem oth_ne {l : List Job} {T : Nat} (hT : T < 2 ^ l.length) (h : othJ l T ≠ []) : T ≠ 2 ^ l.length - 1 := by
  rintro rfl
  refine h ?_
  unfold othJ
  rw [List.filter_eq_nil_iff.mpr fun p hp => ?_]
  · rfl
  · rw [Nat.testBit_two_pow_sub_one, decide_eq_true (List.mem_range.mp hp)]
    decide
theorem oth_all {l : List Job} {T : Nat} (hT : T < 2 ^ l.length) (h : othJ l T = []) : T = 2 ^ l.length - 1 := by
  have h : ((List.range l.length).filter fun p => !T.testBit p) = [] := List.map_eq_nil_iff.mp h
  rw [List.filter_eq_nil_iff] at h
  apply Nat.eq_of_testBit_eq
  intro i
  rw [Nat.testBit_two_pow_sub_one]
  by_cases hi : i < l.length
  · have z := h i (List.mem_range.mpr hi)
    rw [decide_eq_true hi]
    simpa using z
  · rw [decide_eq_false hi]
    exact Nat.testBit_lt_two_pow (Nat.lt_of_lt_of_le hT (Nat.pow_le_pow_right (by decide) (by omega)))
theorem fold_lor_test (i : Nat) : ∀ (l : List Nat) (a : Nat), (l.foldl Nat.lor a).testBit i = (a.testBit i || l.any fun x => x.testBit i)
  | [], a => by simp
  | x :: l, a => by
    rw [List.foldl_cons, fold_lor_test i l]
    have e : (Nat.lor a x).testBit i = (a.testBit i || x.testBit i) := Nat.testBit_or a x i
    rw [e, List.any_cons, Bool.or_assoc]
/-- **one part**: who pays least, and how much -/
theorem part {s : Shop} {l : List Job} {T a b : Nat} (hT : T < 2 ^ l.length) (hne : othJ l T ≠ []) (hin : ∃ qs ∈ choices (othJ l T), (a, b) = shr (zero s.costs (un l T)) qs)
    (hmin : ∀ qs ∈ choices (othJ l T), a * (shr (zero s.costs (un l T)) qs).2 ≤ (shr (zero s.costs (un l T)) qs).1 * b) :
    b ≠ 0 ∧ ∃ P, Dr02.poorest (Dr05.costOf s l) T = (P, mkRat (a : Int) b) ∧ P < 2 ^ l.length ∧ P &&& T = 0 ∧ P ≠ 0 ∧
      ∀ p, P.testBit p = true ↔ ∃ S ∈ leftC l.length T, (shr (zero s.costs (un l T)) (selJ l S)).1 * b ≤ a * (shr (zero s.costs (un l T)) (selJ l S)).2 ∧ S.testBit p = true := by
  obtain ⟨m, ⟨S1, hS1, e1⟩, hm, hp⟩ := poorest_is s l hT (oth_ne hT hne)
  obtain ⟨qs0, hq0, e0⟩ := hin
  obtain ⟨S0, hS0, rfl⟩ := (mem_choices l qs0).mp hq0
  have ps : ∀ S ∈ leftC l.length T, pop l.length S ≠ 0 := fun S hS => by
    have z := pop_pos (mem_leftC.mp hS).2.2 (mem_leftC.mp hS).1
    omega
  rw [shr_sel] at e0
  have hb : b ≠ 0 := by
    have z := congrArg Prod.snd e0
    have y := ps S0 hS0
    simp only at z
    omega
  have ea : mkRat (a : Int) b = per s l T S0 := by
    have z1 : a = costL s.costs (less (un l S0) (un l T)) := congrArg Prod.fst e0
    have z2 : b = pop l.length S0 := congrArg Prod.snd e0
    unfold per
    rw [z1, z2]
  have hle : ∀ S ∈ leftC l.length T, mkRat (a : Int) b ≤ per s l T S := fun S hS => by
    unfold per
    rw [mk_le hb (ps S hS)]
    have z := hmin _ ((mem_choices l _).mpr ⟨S, hS, rfl⟩)
    rw [shr_sel] at z
    exact z
  have em : m = mkRat (a : Int) b := Rat.le_antisymm (by rw [ea]; exact hm S0 hS0) (by rw [e1]; exact hle S1 hS1)
  subst em
  have ht : ∀ S ∈ leftC l.length T, ((per s l T S == mkRat (a : Int) b) = true ↔ (shr (zero s.costs (un l T)) (selJ l S)).1 * b ≤ a * (shr (zero s.costs (un l T)) (selJ l S)).2) := fun S hS => by
    rw [shr_sel, beq_iff_eq, ← mk_le (ps S hS) hb]
    constructor
    · intro z
      show per s l T S ≤ _
      rw [z]
      exact Rat.le_refl
    · intro z
      exact Rat.le_antisymm z (hle S hS)
  have tb : ∀ p, (((leftC l.length T).filter fun S => per s l T S == mkRat (a : Int) b).foldl Nat.lor 0).testBit p = true ↔ ∃ S ∈ leftC l.length T, (shr (zero s.costs (un l T)) (selJ l S)).1 * b ≤ a * (shr (zero s.costs (un l T)) (selJ l S)).2 ∧ S.testBit p = true := fun p => by
    rw [fold_lor_test, Nat.zero_testBit, Bool.false_or, List.any_eq_true]
    constructor
    · rintro ⟨S, hS, h⟩
      obtain ⟨h1, h2⟩ := List.mem_filter.mp hS
      exact ⟨S, h1, (ht S h1).mp h2, h⟩
    · rintro ⟨S, h1, h2, h⟩
      exact ⟨S, List.mem_filter.mpr ⟨h1, (ht S h1).mpr h2⟩, h⟩
  refine ⟨hb, _, hp, ?_, ?_, ?_, tb⟩
  · refine Nat.lt_pow_two_of_testBit _ fun i hi => ?_
    cases h : (((leftC l.length T).filter fun S => per s l T S == mkRat (a : Int) b).foldl Nat.lor 0).testBit i with
    | false => rfl
    | true =>
      obtain ⟨S, hS, _, h2⟩ := (tb i).mp h
      rw [Nat.testBit_lt_two_pow (Nat.lt_of_lt_of_le (mem_leftC.mp hS).1 (Nat.pow_le_pow_right (by decide) hi))] at h2
      cases h2
  · apply Nat.eq_of_testBit_eq
    intro i
    rw [Nat.testBit_and, Nat.zero_testBit]
    cases h : (((leftC l.length T).filter fun S => per s l T S == mkRat (a : Int) b).foldl Nat.lor 0).testBit i with
    | false => rfl
    | true =>
      obtain ⟨S, hS, _, h2⟩ := (tb i).mp h
      have z := congrArg (fun n => Nat.testBit n i) (mem_leftC.mp hS).2.1
      simp only [Nat.testBit_and, Nat.zero_testBit, h2, Bool.true_and] at z
      rw [z]
      rfl
  · intro z
    have h0 := (mem_leftC.mp hS0)
    have y := pop_pos h0.2.2 h0.1
    unfold pop at y
    obtain ⟨i, hi⟩ := List.exists_mem_of_length_pos y
    have h2 := (List.mem_filter.mp hi).2
    have w := (tb i).mpr ⟨S0, hS0, (ht S0 hS0).mp (by rw [ea]; exact beq_self_eq_true _), h2⟩
    rw [z, Nat.zero_testBit] at w
    cases w
/-! ### those who pay, as jobs -/
theorem sel_mem {l : List Job} {S : Nat} {j : Job} : j ∈ selJ l S ↔ ∃ p, p < l.length ∧ S.testBit p = true ∧ l.getD p job0 = j := by
  unfold selJ
  rw [List.mem_map]
  constructor
  · rintro ⟨p, hp, e⟩
    exact ⟨p, List.mem_range.mp (List.mem_filter.mp hp).1, (List.mem_filter.mp hp).2, e⟩
  · rintro ⟨p, hp, ht, e⟩
    exact ⟨p, List.mem_filter.mpr ⟨List.mem_range.mpr hp, ht⟩, e⟩
theorem at_mem {l : List Job} {p : Nat} (h : p < l.length) : l.getD p job0 ∈ l := by
  rw [List.getD_eq_getElem?_getD, List.getElem?_eq_getElem h]
  exact List.getElem_mem h
theorem at_inj : ∀ {l : List Job}, (l.map fun j => j.num).Nodup → ∀ {p q : Nat}, p < l.length → q < l.length → (l.getD p job0).num = (l.getD q job0).num → p = q
  | [], _, p, q, h, _, _ => by simp at h
  | x :: l, nd, p, q, hp, hq, e => by
    rw [List.map_cons, List.nodup_cons] at nd
    cases p with
    | zero =>
      cases q with
      | zero => rfl
      | succ q =>
        have hq : q < l.length := by simpa using hq
        exact absurd (List.mem_map.mpr ⟨_, at_mem hq, e.symm⟩) nd.1
    | succ p =>
      have hp : p < l.length := by simpa using hp
      cases q with
      | zero => exact absurd (List.mem_map.mpr ⟨_, at_mem hp, e⟩) nd.1
      | succ q =>
        have hq : q < l.length := by simpa using hq
        exact congrArg (· + 1) (at_inj nd.2 hp hq e)
/-- what those need who pay: by their places -/
theorem nd_pay {l PL : List Job} {P : Nat} (h : ∀ j, j ∈ PL ↔ j ∈ selJ l P) : nd PL = un l P := by
  apply Nat.eq_of_testBit_eq
  intro i
  rw [← nd_sel]
  unfold nd
  rw [fold_lor_test, fold_lor_test, List.any_map, List.any_map, Bool.eq_iff_iff, Bool.or_eq_true, Bool.or_eq_true, List.any_eq_true, List.any_eq_true]
  refine or_congr Iff.rfl ⟨?_, ?_⟩
  · rintro ⟨j, hj, e⟩
    exact ⟨j, (h j).mp hj, e⟩
  · rintro ⟨j, hj, e⟩
    exact ⟨j, (h j).mpr hj, e⟩
/-- the others behind a part -/
theorem oth_next {l : List Job} {T P : Nat} (nd : (l.map fun j => j.num).Nodup) (f : Job → Bool) (h : ∀ p, p < l.length → f (l.getD p job0) = !P.testBit p) : (othJ l T).filter f = othJ l (T ||| P) := by
  unfold othJ
  rw [List.filter_map, List.filter_filter]
  refine congrArg (List.map _) (List.filter_congr fun p hp => ?_)
  show (f (l.getD p job0) && !T.testBit p) = _
  rw [h p (List.mem_range.mp hp), Nat.testBit_or]
  cases T.testBit p <;> cases P.testBit p <;> rfl
theorem oth_len (l : List Job) (T : Nat) : (othJ l T).length ≤ l.length := by
  unfold othJ
  rw [List.length_map]
  exact Nat.le_trans (List.length_filter_le _ _) (by rw [List.length_range]; exact Nat.le_refl _)
theorem oth_lt {l : List Job} {T P : Nat} (hP : P < 2 ^ l.length) (h0 : P ≠ 0) (hd : P &&& T = 0) : (othJ l (T ||| P)).length < (othJ l T).length := by
  unfold othJ
  rw [List.length_map, List.length_map]
  refine (filter_len (l := List.range l.length) fun p _ h => ?_).2 ?_
  · rw [Nat.testBit_or] at h
    cases hh : T.testBit p with
    | false => rfl
    | true => rw [hh] at h; cases h
  · have z := pop_pos h0 hP
    unfold pop at z
    obtain ⟨i, hi⟩ := List.exists_mem_of_length_pos z
    obtain ⟨h1, h2⟩ := List.mem_filter.mp hi
    have y := congrArg (fun n => Nat.testBit n i) hd
    simp only [Nat.testBit_and, Nat.zero_testBit, h2, Bool.true_and] at y
    refine ⟨i, h1, by rw [y]; rfl, ?_⟩
    rw [Nat.testBit_or, h2, Bool.or_true]
    rfl
theorem fair_end {s : Shop} {l : List Job} {T : Nat} (hT : T = 2 ^ l.length - 1) : ∀ n, Dr02.fairFrom (Dr05.costOf s l) n T = []
  | 0 => rfl
  | n + 1 => by
    rw [Dr02.fairFrom]
    have e : T = Dr02.all (Dr05.costOf s l) := hT
    rw [if_pos e]
theorem fair_more {s : Shop} {l : List Job} {T P n : Nat} {m : Rat} (hT : T ≠ 2 ^ l.length - 1) (hp : Dr02.poorest (Dr05.costOf s l) T = (P, m)) : Dr02.fairFrom (Dr05.costOf s l) (n + 1) T = (P, m) :: Dr02.fairFrom (Dr05.costOf s l) n (T ||| P) := by
  rw [Dr02.fairFrom]
  have e : ¬ T = Dr02.all (Dr05.costOf s l) := hT
  rw [if_neg e]
  dsimp only
  rw [hp]
  rfl
theorem fairest_at {s : Shop} {l : List Job} {pre : List (Nat × Rat)} (h : pre = Dr02.fairFrom (Dr05.costOf s l) l.length 0) (g : Nat → Rat) (hg : ∀ p, p < l.length → (pre.find? fun q => Dr01.has q.1 (p + 1)).map (fun q => q.2) = some (g p)) :
    Dr02.fairest (Dr05.costOf s l) = (List.range l.length).map g := by
  unfold Dr02.fairest Dr01.things
  dsimp only
  rw [costOf_many, ← h, List.map_map]
  refine List.map_congr_left fun p hp => ?_
  show ((pre.find? fun q => Dr01.has q.1 (p + 1)).map fun q => q.2).getD 0 = g p
  rw [hg p (List.mem_range.mp hp)]
  rfl
end JM
/-! JTools: the defs of jobtools/toolsets.py keep their promises -/
namespace J
open PySem PySem.Spec PyProof.Rows L2 Evl
open JM (bit costL)
def top (i : Nat) : Stmt := PySem.Challenge.pw_jobtools_s01_answers.main.body.getD i (.Pass ⟨0, 0, 0, 0⟩)
abbrev sHow : Stmt := top 8
abbrev sAllSets : Stmt := top 9
abbrev sIsSet : Stmt := top 10
abbrev sIsTool : Stmt := top 11
abbrev sOne : Stmt := top 12
abbrev sHasAll : Stmt := top 13
abbrev sCost : Stmt := top 14
abbrev sAllHave : Stmt := top 15
abbrev sSomeHas : Stmt := top 16
/-- Python's own names that the program calls -/
structure Blt (mg : Str → Option Value) : Prop where
  len : mg "len" = none
  sum : mg "sum" = none
  max : mg "max" = none
  enu : mg "enumerate" = none
  rng : mg "range" = none
  lst : mg "list" = none
abbrev nums (l : List Nat) : List V := l.map fun (n : Nat) => V.int (n : Int)
theorem nums_map (l : List Nat) : nums l = (l.map fun (n : Nat) => (n : Int)).map V.int := by
  rw [List.map_map]; rfl
theorem nums_get {l : List Nat} {i : Nat} {x : V} (h : (nums l)[i]? = some x) : x = V.int (l.getD i 0 : Nat) ∧ i < l.length := by
  rw [List.getElem?_map] at h
  cases e : l[i]? with
  | none =>
    rw [e] at h
    cases h
  | some z =>
    rw [e] at h
    have hz : V.int (z : Int) = x := Option.some.inj h
    refine ⟨?_, (List.getElem?_eq_some_iff.mp e).1⟩
    rw [List.getD_eq_getElem?_getD, e]
    exact hz.symm
theorem band_nat (a b : Nat) : Builtin.bitAnd (a : Int) (b : Int) = ((a &&& b : Nat) : Int) := by
  rw [bitAnd_pp (by omega) (by omega), Int.toNat_natCast, Int.toNat_natCast]
theorem bor_nat (a b : Nat) : Builtin.bitOr (a : Int) (b : Int) = ((a ||| b : Nat) : Int) := by
  rw [Bits.bitOr_pp (by omega) (by omega), Int.toNat_natCast, Int.toNat_natCast]
theorem shr_nat (t i : Nat) : (t : Int) / 2 ^ i = ((t / 2 ^ i : Nat) : Int) := by
  rw [Int.natCast_ediv, Int.natCast_pow]
  rfl
theorem dec_nat (a b : Nat) : decide (V.int (a : Int) = V.int (b : Int)) = (a == b) := by
  by_cases h : a = b
  · subst h
    simp
  · rw [decide_eq_false (fun z => h (by injection z with z; omega))]
    exact (beq_eq_false_iff_ne.mpr h).symm
theorem fold_more (f : Nat → Nat → Nat) {l : List Nat} {i x : Nat} (h : i < l.length) : (l.take (i + 1)).foldl f x = f ((l.take i).foldl f x) (l.getD i 0) := by
  rw [List.take_succ_eq_append_getElem h, List.foldl_append, List.getD_eq_getElem?_getD, List.getElem?_eq_getElem h]
  rfl
def spHow (K : PySem.W.Frag) : Sp := fun vs H Q _ => ∃ (a : Addr) (xs : List V), vs = [.ref a] ∧ SqL K H a xs ∧ xs.length ≤ 1000 ∧ RetV (.int ((2 ^ xs.length : Nat) : Int)) H Q
def spIsSet (K : PySem.W.Frag) : Sp := fun vs H Q _ => ∃ (a : Addr) (xs : List V) (t : Nat), vs = [.ref a, .int (t : Int)] ∧ SqL K H a xs ∧ xs.length ≤ 1000 ∧ RetV (.bl (decide (t < 2 ^ xs.length))) H Q
def spAllSets (K : PySem.W.Frag) : Sp := fun vs H Q _ => ∃ (a : Addr) (xs : List V), vs = [.ref a] ∧ SqL K H a xs ∧ xs.length ≤ 5 ∧ RetL (nums (List.range (2 ^ xs.length))) H Q
def spIsTool (K : PySem.W.Frag) : Sp := fun vs H Q _ => ∃ (a : Addr) (xs : List V) (t : Nat), vs = [.ref a, .int (t : Int)] ∧ SqL K H a xs ∧ RetV (.bl (decide (1 ≤ t) && decide (t ≤ xs.length))) H Q
def spOne : Sp := fun vs H Q _ => ∃ t : Nat, vs = [.int ((t + 1 : Nat) : Int)] ∧ t ≤ 1000 ∧ RetV (.int ((2 ^ t : Nat) : Int)) H Q
def spHasAll : Sp := fun vs H Q _ => ∃ (t n : Nat), vs = [.int (t : Int), .int (n : Int)] ∧ RetV (.bl (t &&& n == n)) H Q
def spCost (K : PySem.W.Frag) : Sp := fun vs H Q _ => ∃ (a : Addr) (cs : List Nat) (t : Nat), vs = [.ref a, .int (t : Int)] ∧ SqL K H a (nums cs) ∧ cs.length ≤ 1000 ∧ RetV (.int (costL cs t : Nat)) H Q
def spAllHave (K : PySem.W.Frag) : Sp := fun vs H Q _ => ∃ (a : Addr) (x : Nat) (r : List Nat), vs = [.ref a] ∧ SqL K H a (nums (x :: r)) ∧ RetV (.int ((x :: r).foldl Nat.land x : Nat)) H Q
def spSomeHas (K : PySem.W.Frag) : Sp := fun vs H Q _ => ∃ (a : Addr) (l : List Nat), vs = [.ref a] ∧ SqL K H a (nums l) ∧ RetV (.int (l.foldl Nat.lor 0 : Nat)) H Q
section
variable {P : Program} {w : World} {K : PySem.W.Frag} {mg : Str → Option Value} {base : Heap}
theorem scHow : FnScope ["costs"] ["costs"] (defScope sHow) := ⟨rfl, rfl, rfl, by decide +kernel, rfl, by decide +kernel, by decide +kernel⟩
theorem ok_how (F : DefAt K mg "how_many_sets" sHow ["costs"]) (B : Blt mg) : Cal P w K mg base 1 "how_many_sets" (spHow K) := by
  refine F.cal scHow (fun vs H Q E h => ?_) (fun f cdv A outer s H vs Q E hr h => ⟨_, pss_one (ps_ret (pe_op op_shl pe_int (pe_callB call_len_seq (by rfl) B.len PySem.boot_len (pa_cons (pv 0) pa_nil)))), ?_⟩)
  · obtain ⟨a, xs, rfl, _⟩ := h
    rfl
  · obtain ⟨a, xs, rfl, hs, hl, k⟩ := h
    refine s_ret (ev_is (ev_op ev_c (ev_len (ev_var rfl) hs) (rv_I ⟨by omega, by omega, by decide⟩)) ?_) k
    rw [Int.toNat_natCast, Int.one_mul, Int.natCast_pow]
    rfl
theorem scIsSet : FnScope ["costs", "tools"] ["costs", "tools"] (defScope sIsSet) := ⟨rfl, rfl, rfl, by decide +kernel, rfl, by decide +kernel, by decide +kernel⟩
theorem ok_isSet (F : DefAt K mg "is_set" sIsSet ["costs", "tools"]) (c : Cal P w K mg base 1 "how_many_sets" (spHow K)) : Cal P w K mg base 2 "is_set" (spIsSet K) := by
  refine F.cal scIsSet (fun vs H Q E h => ?_) (fun f cdv A outer s H vs Q E hr h => ⟨_, pss_one (ps_ret (pe_cmpR op_lt (pv 1) (pe_c c hr (by decide) (by rfl) (pa_cons (pv 0) pa_nil)) (nomark _))), ?_⟩)
  · obtain ⟨a, xs, t, rfl, _⟩ := h
    rfl
  · obtain ⟨a, xs, t, rfl, hs, hl, k⟩ := h
    refine s_ret (ev_is (ev_op (ev_var rfl) (ev_call (ea_cons (ev_var rfl) ea_nil) (z := .int ((2 ^ xs.length : Nat) : Int)) fun H1 e1 Q1 q1 E1 => ⟨a, xs, rfl, ex_l e1 hs, hl, q1⟩) rv_I0) ?_) k
    refine congrArg V.bl ?_
    by_cases h : t < 2 ^ xs.length
    · rw [decide_eq_true h, decide_eq_true (Int.ofNat_lt.mpr h)]
    · rw [decide_eq_false h, decide_eq_false (fun z => h (Int.ofNat_lt.mp z))]
theorem scAllSets : FnScope ["costs"] ["costs"] (defScope sAllSets) := ⟨rfl, rfl, rfl, by decide +kernel, rfl, by decide +kernel, by decide +kernel⟩
theorem ok_allSets (F : DefAt K mg "all_sets" sAllSets ["costs"]) (B : Blt mg) (c : Cal P w K mg base 1 "how_many_sets" (spHow K)) : Cal P w K mg base 2 "all_sets" (spAllSets K) := by
  refine F.cal scAllSets (fun vs H Q E h => ?_) (fun f cdv A outer s H vs Q E hr h => ⟨_, pss_one (ps_ret (pe_listRg rfl (by rfl) B.lst (prg_1 (by rfl) B.rng (pe_c c hr (by decide) (by rfl) (pa_cons (pv 0) pa_nil))))), ?_⟩)
  · obtain ⟨a, xs, rfl, _⟩ := h
    rfl
  · obtain ⟨a, xs, rfl, hs, hl, k⟩ := h
    have hp : 2 ^ xs.length ≤ 2 ^ 5 := Nat.pow_le_pow_right (by decide) hl
    exact s_retL (el_listRg (n := 2 ^ xs.length) (ev_call (ea_cons (ev_var rfl) ea_nil) fun H1 e1 Q1 q1 E1 => ⟨a, xs, rfl, ex_l e1 hs, by omega, q1⟩) (by omega)) k
theorem scIsTool : FnScope ["costs", "tool"] ["costs", "tool"] (defScope sIsTool) := ⟨rfl, rfl, rfl, by decide +kernel, rfl, by decide +kernel, by decide +kernel⟩
theorem ok_isTool (F : DefAt K mg "is_tool" sIsTool ["costs", "tool"]) (B : Blt mg) : Cal P w K mg base 1 "is_tool" (spIsTool K) := by
  refine F.cal scIsTool (fun vs H Q E h => ?_) (fun f cdv A outer s H vs Q E hr h => ⟨_, pss_one (ps_ret (pe_and (pe_cmpR op_gt (pv 1) pe_int (nomark _)) (pe_one (pe_cmpR op_le (pv 1) (pe_callB call_len_seq (by rfl) B.len PySem.boot_len (pa_cons (pv 0) pa_nil)) (nomark _))))), ?_⟩)
  · obtain ⟨a, xs, t, rfl, _⟩ := h
    rfl
  · obtain ⟨a, xs, t, rfl, hs, k⟩ := h
    refine s_ret (ev_is (ev_andV (ev_op (ev_var rfl) ev_c rv_I0) fun _ => ev_op (ev_var rfl) (ev_len (ev_var rfl) hs) rv_I0) ?_) k
    refine congrArg V.bl ?_
    have e1 : decide ((0 : Int) < (t : Int)) = decide (1 ≤ t) := decide_eq_decide.mpr (by omega)
    have e2 : decide ((t : Int) ≤ (xs.length : Int)) = decide (t ≤ xs.length) := decide_eq_decide.mpr (by omega)
    rw [e1, e2]
theorem scOne : FnScope ["tool"] ["tool"] (defScope sOne) := ⟨rfl, rfl, rfl, by decide +kernel, rfl, by decide +kernel, by decide +kernel⟩
theorem ok_one (F : DefAt K mg "set_of_one" sOne ["tool"]) : Cal P w K mg base 1 "set_of_one" spOne := by
  refine F.cal scOne (fun vs H Q E h => ?_) (fun f cdv A outer s H vs Q E hr h => ⟨_, pss_one (ps_ret (pe_op op_shl pe_int (pe_op op_sub (pv 0) pe_int))), ?_⟩)
  · obtain ⟨t, rfl, _⟩ := h
    rfl
  · obtain ⟨t, rfl, ht, k⟩ := h
    refine s_ret (ev_is (ev_op ev_c (ev_is (w := .int (t : Int)) (ev_op (ev_var rfl) ev_c rv_I0) (congrArg V.int (by omega))) (rv_I ⟨by omega, by omega, by decide⟩)) ?_) k
    rw [Int.toNat_natCast, Int.one_mul, Int.natCast_pow]
    rfl
theorem scHasAll : FnScope ["tools", "needs"] ["tools", "needs"] (defScope sHasAll) := ⟨rfl, rfl, rfl, by decide +kernel, rfl, by decide +kernel, by decide +kernel⟩
theorem ok_hasAll (F : DefAt K mg "has_all" sHasAll ["tools", "needs"]) : Cal P w K mg base 1 "has_all" spHasAll := by
  refine F.cal scHasAll (fun vs H Q E h => ?_) (fun f cdv A outer s H vs Q E hr h => ⟨_, pss_one (ps_ret (pe_cmpR op_eq (pe_op op_and (pv 0) (pv 1)) (pv 1) (nomark _))), ?_⟩)
  · obtain ⟨t, n, rfl, _⟩ := h
    rfl
  · obtain ⟨t, n, rfl, k⟩ := h
    refine s_ret (ev_is (ev_op (ev_op (ev_var rfl) (ev_var rfl) rv_I0) (ev_var rfl) (rv_eq rfl)) ?_) k
    rw [band_nat]
    refine congrArg V.bl ?_
    by_cases h : t &&& n = n
    · rw [h]; simp
    · have h1 : ¬ V.int ((t &&& n : Nat) : Int) = V.int (n : Int) := fun z => h (by injection z with z; omega)
      rw [decide_eq_false h1]
      exact (beq_eq_false_iff_ne.mpr h).symm
theorem scCost : FnScope ["costs", "tools", "place", "cost"] ["costs", "tools"] (defScope sCost) := ⟨rfl, rfl, rfl, by decide +kernel, rfl, by decide +kernel, by decide +kernel⟩
theorem ok_cost (F : DefAt K mg "cost_of" sCost ["costs", "tools"]) (B : Blt mg) : Cal P w K mg base 1 "cost_of" (spCost K) := by
  refine F.cal scCost (fun vs H Q E h => ?_) (fun f cdv A outer s H vs Q E hr h => ⟨_, pss_one (ps_ret (pe_callB (cr_sum rfl) (by rfl) B.sum (by decide +kernel) (pa_cons
    (pe_lc (own := [("place", 2), ("cost", 3)]) (g := gTup K 2 (gCons (gName 2) (gCons (gName 3) gNil))) (by rfl) scCost.nd (pi_enum (by rfl) B.enu (pa_cons (pv 0) pa_nil)) (blkOk_by (own := [("place", 2), ("cost", 3)]) (N := ["costs", "tools", "place", "cost"]) (sc := defScope sCost) (by decide +kernel))
      (fun _ _ _ _ _ => by exact pg_tup rfl (pgs_cons (pg_name (i := 2) scCost.nd rfl (Or.inl rfl)) (pgs_cons (pg_name (i := 3) scCost.nd rfl (Or.inl rfl)) pgs_nil)))
      (fun _ _ _ _ _ => by exact pts_one (pt_cmpR op_eq (pe_op op_and (pe_op op_shr (pv 1) (pv 2)) pe_int) pe_int (nomark _))) (fun _ _ _ _ _ => by exact pv 3)) pa_nil))), ?_⟩)
  · obtain ⟨a, cs, t, rfl, _⟩ := h
    rfl
  · obtain ⟨a, cs, t, rfl, hs, hl, k⟩ := h
    refine s_ret (ev_is (ev_sumN (ns := (((List.range cs.length).filter (bit t)).map fun i => ((cs.getD i 0 : Nat) : Int))) ?_) ?_) k
    · refine el_is (el_lcE (bit t) (fun i => V.int (cs.getD i 0 : Nat)) (ev_var rfl) hs (by rw [List.length_map]; omega) (fun _ _ => rfl) (fun i x H1 e1 hx => ?_) (fun i x H1 e1 hx hf => ?_)) ?_
      · refine et_is (et_test (ev_op (ev_op (ev_op (ev_var rfl) (ev_var rfl) (rv_I (by show (0 : Int) ≤ (i : Int); omega))) ev_c rv_I0) ev_c (rv_eq rfl))) ?_
        rw [Int.toNat_natCast, shr_nat, show (1 : Int) = ((1 : Nat) : Int) from rfl, band_nat, Nat.and_one_is_mod]
        exact dec_nat _ _
      · obtain ⟨rfl, _⟩ := nums_get hx
        exact ev_var rfl
      · unfold given
        rw [List.length_map, List.map_map]
        rfl
    · refine congrArg V.int ?_
      show _ = ((costL cs t : Nat) : Int)
      unfold costL
      rw [← JM.sum_cast, List.map_map]
      rfl
theorem scAllHave : FnScope ["sets", "common", "tools"] ["sets"] (defScope sAllHave) := ⟨rfl, rfl, rfl, by decide +kernel, rfl, by decide +kernel, by decide +kernel⟩
theorem ok_allHave (F : DefAt K mg "what_all_have" sAllHave ["sets"]) : Cal P w K mg base 1 "what_all_have" (spAllHave K) := by
  refine F.cal scAllHave (fun vs H Q E h => ?_) (fun f cdv A outer s H vs Q E hr h => ⟨_, pss_cons (ps_set (i := 1) scAllHave.nd rfl (Or.inl rfl) (pe_ix ix_list (pv 0) pe_int (fun _ _ => rfl)))
    (pss_cons (ps_for PassesOwn.never rfl (pi_list (pv 0)) (pg_name (i := 2) scAllHave.nd rfl (Or.inl rfl)) (pss_one (ps_set (i := 1) scAllHave.nd rfl (Or.inl rfl) (pe_op op_and (pv 1) (pv 2)))))
    (pss_one (ps_ret (pv 1)))), ?_⟩)
  · obtain ⟨a, x, r, rfl, _⟩ := h
    rfl
  · obtain ⟨a, x, r, rfl, hs, k⟩ := h
    refine q_asg (ev_op (ev_var rfl) ev_c (rv_ixL hs (v := .int (x : Int)) (atI_nat (j := 0) rfl))) fun H1 e1 => ?_
    refine q_forLn (ev_var rfl) (ex_l e1 hs) (fun i σ' H' => ∃ u, σ' = [some (.ref a), some (.int (((x :: r).take i).foldl Nat.land x : Nat)), u] ∧ Ex H1 H') (fun H2 e2 => ⟨none, rfl, e2⟩)
      (fun i σ' H' _ ⟨_, _, e2⟩ => ex_l (e1.trans e2) hs) (fun i y σ' H' hy ⟨u, e, e2⟩ => ?_) (fun σ' H' ⟨u, e, e2⟩ => ?_)
    · subst e
      obtain ⟨rfl, hi⟩ := nums_get hy
      refine s_asg (ev_op (ev_var rfl) (ev_var rfl) rv_I0) fun H3 e3 => ⟨some (.int ((x :: r).getD i 0 : Nat)), ?_, e2.trans e3⟩
      rw [band_nat, fold_more Nat.land hi]
      rfl
    · subst e
      refine s_ret (ev_var rfl) fun H3 e3 => ?_
      rw [List.length_map, List.take_length]
      exact k H3 ((e1.trans e2).trans e3)
theorem scSomeHas : FnScope ["sets", "joined", "tools"] ["sets"] (defScope sSomeHas) := ⟨rfl, rfl, rfl, by decide +kernel, rfl, by decide +kernel, by decide +kernel⟩
theorem ok_someHas (F : DefAt K mg "what_some_has" sSomeHas ["sets"]) : Cal P w K mg base 1 "what_some_has" (spSomeHas K) := by
  refine F.cal scSomeHas (fun vs H Q E h => ?_) (fun f cdv A outer s H vs Q E hr h => ⟨_, pss_cons (ps_set (i := 1) scSomeHas.nd rfl (Or.inl rfl) pe_int)
    (pss_cons (ps_for PassesOwn.never rfl (pi_list (pv 0)) (pg_name (i := 2) scSomeHas.nd rfl (Or.inl rfl)) (pss_one (ps_set (i := 1) scSomeHas.nd rfl (Or.inl rfl) (pe_op op_or (pv 1) (pv 2)))))
    (pss_one (ps_ret (pv 1)))), ?_⟩)
  · obtain ⟨a, l, rfl, _⟩ := h
    rfl
  · obtain ⟨a, l, rfl, hs, k⟩ := h
    refine q_asg ev_c fun H1 e1 => ?_
    refine q_forLn (ev_var rfl) (ex_l e1 hs) (fun i σ' H' => ∃ u, σ' = [some (.ref a), some (.int ((l.take i).foldl Nat.lor 0 : Nat)), u] ∧ Ex H1 H') (fun H2 e2 => ⟨none, rfl, e2⟩)
      (fun i σ' H' _ ⟨_, _, e2⟩ => ex_l (e1.trans e2) hs) (fun i y σ' H' hy ⟨u, e, e2⟩ => ?_) (fun σ' H' ⟨u, e, e2⟩ => ?_)
    · subst e
      obtain ⟨rfl, hi⟩ := nums_get hy
      refine s_asg (ev_op (ev_var rfl) (ev_var rfl) rv_I0) fun H3 e3 => ⟨some (.int (l.getD i 0 : Nat)), ?_, e2.trans e3⟩
      rw [bor_nat, fold_more Nat.lor hi]
      rfl
    · subst e
      refine s_ret (ev_var rfl) fun H3 e3 => ?_
      rw [List.length_map, List.take_length]
      exact k H3 ((e1.trans e2).trans e3)
end
end J
/-! JWorth: the defs of jobtools/worth.py keep their promises -/
namespace J
open PySem PySem.Spec PyProof.Rows L2 Evl
open JM (bit costL doneB payL)
open Dr05 (Shop Job)
abbrev sDone : Stmt := top 27
abbrev sPaid : Stmt := top 28
abbrev sLeft : Stmt := top 29
abbrev sMost : Stmt := top 30
abbrev sBestOf : Stmt := top 31
abbrev sWorth : Stmt := top 32
/-! ### the jobs in the heap -/
def JobKV (H : Hp) (kv : Key × V) (j : Job) : Prop := kv.1 = Sum.inl (j.num : Int) ∧ ∃ t, kv.2 = .ref t ∧ H t = some (.tup [.int (j.pay : Int), .int (j.needs : Int)])
def JobsAt (H : Hp) (d : Addr) (js : List Job) : Prop := ∃ kvs, H d = some (.dK kvs) ∧ Paired (JobKV H) kvs js
theorem JobKV.ex {H H' : Hp} (e : Ex H H') {kv : Key × V} {j : Job} (h : JobKV H kv j) : JobKV H' kv j := by
  obtain ⟨h1, t, h2, h3⟩ := h
  exact ⟨h1, t, h2, e _ _ h3⟩
theorem jobs_ex {H H' : Hp} {kvs : List (Key × V)} {js : List Job} (h : ∀ b xs, H b = some (.tup xs) → H' b = some (.tup xs)) (p : Paired (JobKV H) kvs js) : Paired (JobKV H') kvs js :=
  Paired.mapP p fun kv j ⟨h1, t, h2, h3⟩ => ⟨h1, t, h2, h _ _ h3⟩
theorem JobsAt.ex {H H' : Hp} (e : Ex H H') {d : Addr} {js : List Job} (h : JobsAt H d js) : JobsAt H' d js := by
  obtain ⟨kvs, hd, p⟩ := h
  exact ⟨kvs, e _ _ hd, jobs_ex (fun b xs q => e _ _ q) p⟩
theorem paired_get {α β : Type} {R : α → β → Prop} : ∀ {l : List α} {m : List β} {i : Nat} {x : α}, Paired R l m → l[i]? = some x → ∃ y, m[i]? = some y ∧ R x y
  | _, _, i, x, .nil, h => by simp at h
  | _, _, 0, x, .cons r _, h => by
    simp at h
    subst h
    exact ⟨_, rfl, r⟩
  | _, _, i + 1, x, .cons _ t, h => by
    obtain ⟨y, h1, h2⟩ := paired_get (i := i) (x := x) t (by simpa using h)
    exact ⟨y, by simpa using h1, h2⟩
theorem paired_len {α β : Type} {R : α → β → Prop} {l : List α} {m : List β} (p : Paired R l m) : l.length = m.length := Paired.length p
theorem jobs_val {H : Hp} : ∀ {kvs : List (Key × V)} {js : List Job}, Paired (JobKV H) kvs js → (js.map fun j => j.num).Nodup → ∀ j ∈ js, ∃ t, valV kvs (Sum.inl (j.num : Int)) = some (.ref t) ∧ H t = some (.tup [.int (j.pay : Int), .int (j.needs : Int)])
  | _, _, .nil, _, j, h => by simp at h
  | _, _, .cons (a := kv) (b := k) (l₁ := kvs) (l₂ := js) r p, nd, j, h => by
    rw [List.map_cons, List.nodup_cons] at nd
    obtain ⟨r1, t, r2, r3⟩ := r
    rcases List.mem_cons.mp h with rfl | h
    · exact ⟨t, by rw [valV_pos r1, r2], r3⟩
    · obtain ⟨t', h1, h2⟩ := jobs_val p nd.2 j h
      refine ⟨t', ?_, h2⟩
      rw [valV_neg, h1]
      rw [r1]
      intro z
      have z := Sum.inl.inj z
      exact nd.1 (List.mem_map.mpr ⟨j, h, by omega⟩)
theorem jobs_no {H : Hp} : ∀ {kvs : List (Key × V)} {js : List Job} {n : Nat}, Paired (JobKV H) kvs js → (∀ j ∈ js, j.num ≠ n) → valV kvs (Sum.inl (n : Int)) = none
  | _, _, n, .nil, _ => rfl
  | _, _, n, .cons (a := kv) (b := k) (l₁ := kvs) (l₂ := js) r p, h => by
    rw [valV_neg, jobs_no p fun j hj => h j (List.mem_cons_of_mem _ hj)]
    rw [r.1]
    intro z
    have z := Sum.inl.inj z
    exact h k List.mem_cons_self (by omega)
theorem range_getD {α : Type} (l : List α) (d : α) : (List.range l.length).map (fun i => l.getD i d) = l := by
  apply List.ext_getElem
  · simp
  · intro i h1 h2
    simp [List.getD_eq_getElem?_getD, h2]
theorem map_range {α β : Type} (l : List α) (d : α) (g : α → β) : (List.range l.length).map (fun i => g (l.getD i d)) = l.map g := by
  have e := congrArg (List.map g) (range_getD l d)
  rw [List.map_map] at e
  exact e
theorem filter_range {α : Type} (l : List α) (d : α) (f : α → Bool) : ((List.range l.length).filter fun i => f (l.getD i d)).map (fun i => l.getD i d) = l.filter f := by
  have e : l.filter f = ((List.range l.length).map fun i => l.getD i d).filter f := by rw [range_getD]
  rw [e, List.filter_map]
  rfl
theorem map_get {α β : Type} {f : α → β} {l : List α} {i : Nat} {x : β} (h : (l.map f)[i]? = some x) : ∃ y, l[i]? = some y ∧ x = f y := by
  rw [List.getElem?_map] at h
  cases e : l[i]? with
  | none =>
    rw [e] at h
    cases h
  | some z =>
    rw [e] at h
    exact ⟨z, rfl, (Option.some.inj h).symm⟩
theorem given_all (n : Nat) (v : Nat → V) : given n (fun _ => true) v = (List.range n).map v := by
  unfold given
  rw [List.filter_eq_self.mpr (fun _ _ => rfl)]
theorem given_nums (l : List Nat) (f : Nat → Bool) : given l.length (fun i => f (l.getD i 0)) (fun i => V.int (l.getD i 0 : Nat)) = nums (l.filter f) := by
  unfold given nums
  rw [← filter_range l 0 f, List.map_map]
  rfl
theorem et_yes {σ : L2.St} {H : Hp} : EvT tYes σ H true := fun H1 _ Q q => q H1 (Ex.refl H1)
/-! ### promises -/
def spDone : Sp := fun vs H Q _ => ∃ (d : Addr) (js : List Job) (t : Nat), vs = [.ref d, .int (t : Int)] ∧ JobsAt H d js ∧ (js.map fun j => j.num).Nodup ∧ js.length ≤ 1000 ∧ RetL ((js.filter (doneB t)).map fun j => V.int (j.num : Int)) H Q
def spPaid : Sp := fun vs H Q _ => ∃ (d : Addr) (js : List Job) (t : Nat), vs = [.ref d, .int (t : Int)] ∧ JobsAt H d js ∧ (js.map fun j => j.num).Nodup ∧ js.length ≤ 5 ∧ RetV (.int (payL js t : Nat)) H Q
def spLeft (K : PySem.W.Frag) : Sp := fun vs H Q _ => ∃ (c d : Addr) (s : Shop) (t : Nat), vs = [.ref c, .ref d, .int (t : Int)] ∧ SqL K H c (nums s.costs) ∧ JobsAt H d s.jobs ∧ JM.Sz s ∧ RetV (.int (JM.left s t)) H Q
def spMost (K : PySem.W.Frag) : Sp := fun vs H Q _ => ∃ (c d e : Addr) (s : Shop) (l : List Nat), vs = [.ref c, .ref d, .ref e] ∧ SqL K H c (nums s.costs) ∧ JobsAt H d s.jobs ∧ JM.Sz s ∧ SqL K H e (nums l) ∧ l ≠ [] ∧ l.length ≤ 1000 ∧ RetV (.int (Dr05.most s 1 1 l)) H Q
def spBestOf (K : PySem.W.Frag) : Sp := fun vs H Q _ => ∃ (c d e : Addr) (s : Shop) (l : List Nat), vs = [.ref c, .ref d, .ref e] ∧ SqL K H c (nums s.costs) ∧ JobsAt H d s.jobs ∧ JM.Sz s ∧ SqL K H e (nums l) ∧ l ≠ [] ∧ l.length ≤ 1000 ∧
  RetL (nums (l.filter fun t => Dr05.gain s 1 1 t == Dr05.most s 1 1 l)) H Q
def spWorth (K : PySem.W.Frag) : Sp := fun vs H Q _ => ∃ (c d : Addr) (s : Shop), vs = [.ref c, .ref d] ∧ SqL K H c (nums s.costs) ∧ JobsAt H d s.jobs ∧ JM.Sz s ∧ RetL (nums (Dr05.best s 1 1)) H Q
section
variable {P : Program} {w : World} {K : PySem.W.Frag} {mg : Str → Option Value} {base : Heap}
theorem scDone : FnScope ["jobs", "tools", "number"] ["jobs", "tools"] (defScope sDone) := ⟨rfl, rfl, rfl, by decide +kernel, rfl, by decide +kernel, by decide +kernel⟩
theorem ok_done (F : DefAt K mg "done_with" sDone ["jobs", "tools"]) (cA : Cal P w K mg base 1 "has_all" spHasAll) : Cal P w K mg base 2 "done_with" spDone := by
  refine F.cal scDone (fun vs H Q E h => ?_) (fun f cdv A outer s H vs Q E hr h => ⟨_, pss_one (ps_ret (pe_lock (pe_lc (own := [("number", 2)]) (g := gName 2)
      (tt := tB (tCall spHasAll [] E0 (tCons (tVar 1) (tCons (tOp (rIxT K) (tDGet (tVar 0) (tVar 2)) (tC (.int 1))) tNil)))) (by rfl) scDone.nd (pi_keys (pv 0)) (blkOk_by (own := [("number", 2)]) (N := ["jobs", "tools", "number"]) (sc := defScope sDone) (by decide +kernel))
      (fun _ _ _ _ _ => pg_name (i := 2) scDone.nd rfl (Or.inl rfl))
      (fun _ _ _ _ _ => pts_one (pt_val (pe_c cA hr (by decide) (by rfl) (pa_cons (pv 1) (pa_cons (pe_ix ix_tup (pe_dget (hu_of hr) (pv 0) (pv 2) (fun _ _ => rfl)) pe_int (fun _ _ => rfl)) pa_nil))))) (fun _ _ _ _ _ => pv 2)))), ?_⟩)
  · obtain ⟨d, js, t, rfl, _⟩ := h
    rfl
  · obtain ⟨d, js, t, rfl, ⟨kvs, hd, pr⟩, nd, hl, k⟩ := h
    have lk : ∀ {od : Obj} {H1 : Hp}, Ex (upd H d (.frz od (.dK kvs))) H1 → Rd H1 d (.dK kvs) := fun e1 => .inr ⟨_, e1 _ _ upd_same⟩
    refine s_retL (el_is (el_lcK (kvs := kvs) (fun i => doneB t (js.getD i ⟨0, 0, 0⟩)) (fun i => V.int ((js.getD i ⟨0, 0, 0⟩).num : Int)) (by rw [paired_len pr]; omega) hd (fun H1 => ev_var rfl) (fun _ => rfl) (fun i q od H1 e1 hq => ?_) (fun i q od H1 e1 hq hf => ?_)) ?_) k
    · obtain ⟨j, hj, hk, _⟩ := paired_get pr hq
      obtain ⟨q1, q2⟩ := q
      have hk : q1 = Sum.inl (j.num : Int) := hk
      subst hk
      have ej : js.getD i ⟨0, 0, 0⟩ = j := by rw [List.getD_eq_getElem?_getD, hj]; rfl
      obtain ⟨t1, v1, v2⟩ := jobs_val pr nd j (List.mem_of_getElem? hj)
      have hT : H1 t1 = some (.tup [.int (j.pay : Int), .int (j.needs : Int)]) := e1 _ _ (by rw [upd_ne (ne_of v2 hd (by intro z; cases z))]; exact v2)
      show EvT _ _ H1 (doneB t (js.getD i ⟨0, 0, 0⟩))
      rw [ej]
      refine et_B (ev_call (ea_cons (ev_var rfl) (ea_cons (ev_op (ev_dget (k := Sum.inl (j.num : Int)) (ev_var rfl) (ev_var rfl) (lk e1) v1) ev_c (rv_ixT (st_of hT) (atI_nat (j := 1) rfl))) ea_nil)) ?_)
      exact fun H2 e2 Q2 q2 E2 => ⟨t, j.needs, rfl, q2⟩
    · obtain ⟨j, hj, hk, _⟩ := paired_get pr hq
      obtain ⟨q1, q2⟩ := q
      have hk : q1 = Sum.inl (j.num : Int) := hk
      subst hk
      have ej : js.getD i ⟨0, 0, 0⟩ = j := by rw [List.getD_eq_getElem?_getD, hj]; rfl
      show Ev _ _ H1 (V.int ((js.getD i ⟨0, 0, 0⟩).num : Int))
      rw [ej]
      exact ev_var rfl
    · unfold given
      rw [paired_len pr, ← filter_range js ⟨0, 0, 0⟩ (doneB t), List.map_map]
      rfl
theorem scPaid : FnScope ["jobs", "tools", "number"] ["jobs", "tools"] (defScope sPaid) := ⟨rfl, rfl, rfl, by decide +kernel, rfl, by decide +kernel, by decide +kernel⟩
theorem ok_paid (F : DefAt K mg "paid_with" sPaid ["jobs", "tools"]) (B : Blt mg) (cD : Cal P w K mg base 2 "done_with" spDone) : Cal P w K mg base 3 "paid_with" spPaid := by
  refine F.cal scPaid (fun vs H Q E h => ?_) (fun f cdv A outer s H vs Q E hr h => ⟨_, pss_one (ps_ret (pe_callB (cr_sum rfl) (by rfl) B.sum (by decide +kernel) (pa_cons (pe_lc (own := [("number", 2)]) (g := gName 2) (tt := tYes)
      (te := tOp (rIxT K) (tDGet (tVar 0) (tVar 2)) (tC (.int 0))) (by rfl) scPaid.nd (pi_list (pe_c cD hr (by decide) (by rfl) (pa_cons (pv 0) (pa_cons (pv 1) pa_nil)))) (blkOk_by (own := [("number", 2)]) (N := ["jobs", "tools", "number"]) (sc := defScope sPaid) (by decide +kernel))
      (fun _ _ _ _ _ => pg_name (i := 2) scPaid.nd rfl (Or.inl rfl)) (fun _ _ _ _ _ => pts_nil)
      (fun _ _ _ _ _ => pe_ix ix_tup (pe_dget (hu_of hr) (pv 0) (pv 2) (fun _ _ => rfl)) pe_int (fun _ _ => rfl))) pa_nil))), ?_⟩)
  · obtain ⟨d, js, t, rfl, _⟩ := h
    rfl
  · obtain ⟨d, js, t, rfl, hj, nd, h5, k⟩ := h
    have hlen : (js.filter (doneB t)).length ≤ 5 := Nat.le_trans (List.length_filter_le _ _) h5
    refine s_ret (v := .int (payL js t : Nat)) (ev_is (ev_sumN (ns := (js.filter (doneB t)).map fun j => (j.pay : Int)) (el_is (el_lcNL (xs := (js.filter (doneB t)).map fun (j : Job) => V.int (j.num : Int)) (fun _ => true) (fun i => V.int (((js.filter (doneB t)).getD i ⟨0, 0, 0⟩).pay : Int))
      (el_call (ea_cons (ev_var rfl) (ea_cons (ev_var rfl) ea_nil)) fun H1 e1 Q1 q1 E1 => ⟨d, js, t, rfl, hj.ex e1, nd, by omega, q1⟩) (by rw [List.length_map]; omega) (fun _ => rfl) (fun i x H1 e1 hx => et_yes) (fun i x H1 e1 hx _ => ?_)) ?_)) ?_) k
    · obtain ⟨j, hj1, rfl⟩ := map_get hx
      have ej : (js.filter (doneB t)).getD i ⟨0, 0, 0⟩ = j := by rw [List.getD_eq_getElem?_getD, hj1]; rfl
      show Ev _ _ H1 (V.int (((js.filter (doneB t)).getD i ⟨0, 0, 0⟩).pay : Int))
      rw [ej]
      obtain ⟨kvs, hd, pr⟩ := hj.ex e1
      obtain ⟨t1, v1, v2⟩ := jobs_val pr nd j (List.mem_filter.mp (List.mem_of_getElem? hj1)).1
      exact ev_op (ev_dget (k := Sum.inl (j.num : Int)) (ev_var rfl) (ev_var rfl) (Rd.of hd) v1) ev_c (rv_ixT (st_of v2) (atI_nat (j := 0) rfl))
    · rw [given_all, List.length_map]
      rw [map_range (js.filter (doneB t)) ⟨0, 0, 0⟩ fun j => V.int (j.pay : Int), List.map_map]
      rfl
    · refine congrArg V.int ?_
      unfold payL
      rw [← JM.sum_cast, List.map_map]
      rfl
theorem scLeft : FnScope ["costs", "jobs", "tools"] ["costs", "jobs", "tools"] (defScope sLeft) := ⟨rfl, rfl, rfl, by decide +kernel, rfl, by decide +kernel, by decide +kernel⟩
theorem ok_left (F : DefAt K mg "left_by" sLeft ["costs", "jobs", "tools"]) (cP : Cal P w K mg base 3 "paid_with" spPaid) (cC : Cal P w K mg base 1 "cost_of" (spCost K)) : Cal P w K mg base 4 "left_by" (spLeft K) := by
  refine F.cal scLeft (fun vs H Q E h => ?_) (fun f cdv A outer s H vs Q E hr h => ⟨_, pss_one (ps_ret (pe_op op_sub (pe_c cP hr (by decide) (by rfl) (pa_cons (pv 1) (pa_cons (pv 2) pa_nil))) (pe_c cC hr (by decide) (by rfl) (pa_cons (pv 0) (pa_cons (pv 2) pa_nil))))), ?_⟩)
  · obtain ⟨c, d, s, t, rfl, _⟩ := h
    rfl
  · obtain ⟨c, d, s, t, rfl, hc, hj, wf, k⟩ := h
    exact s_ret (ev_op (ev_call (z := .int (payL s.jobs t : Nat)) (ea_cons (ev_var rfl) (ea_cons (ev_var rfl) ea_nil)) fun H2 e2 Q2 q2 E2 => ⟨d, s.jobs, t, rfl, hj.ex e2, wf.nd, wf.j5, q2⟩)
      (ev_call (z := .int (costL s.costs t : Nat)) (ea_cons (ev_var rfl) (ea_cons (ev_var rfl) ea_nil)) fun H2 e2 Q2 q2 E2 => ⟨c, s.costs, t, rfl, ex_l e2 hc, by have := wf.c5; omega, q2⟩) rv_I0) k
theorem scMost : FnScope ["costs", "jobs", "sets", "tools"] ["costs", "jobs", "sets"] (defScope sMost) := ⟨rfl, rfl, rfl, by decide +kernel, rfl, by decide +kernel, by decide +kernel⟩
theorem ok_most (F : DefAt K mg "most_left" sMost ["costs", "jobs", "sets"]) (B : Blt mg) (cL : Cal P w K mg base 4 "left_by" (spLeft K)) : Cal P w K mg base 5 "most_left" (spMost K) := by
  refine F.cal scMost (fun vs H Q E h => ?_) (fun f cdv A outer s H vs Q E hr h => ⟨_, pss_one (ps_ret (pe_callB (cr_max rfl) (by rfl) B.max (by decide +kernel) (pa_cons (pe_lc (own := [("tools", 3)]) (g := gName 3) (tt := tYes) (te := tCall (spLeft K) [] E0 (tCons (tVar 0) (tCons (tVar 1) (tCons (tVar 3) tNil))))
      (by rfl) scMost.nd (pi_list (pv 2)) (blkOk_by (own := [("tools", 3)]) (N := ["costs", "jobs", "sets", "tools"]) (sc := defScope sMost) (by decide +kernel))
      (fun _ _ _ _ _ => pg_name (i := 3) scMost.nd rfl (Or.inl rfl)) (fun _ _ _ _ _ => pts_nil) (fun _ _ _ _ _ => pe_c cL hr (by decide) (by rfl) (pa_cons (pv 0) (pa_cons (pv 1) (pa_cons (pv 3) pa_nil))))) pa_nil))), ?_⟩)
  · obtain ⟨c, d, e, s, l, rfl, _⟩ := h
    rfl
  · obtain ⟨c, d, e, s, l, rfl, hc, hj, wf, hl, l0, ll, k⟩ := h
    obtain ⟨⟨t0, ht0, em⟩, hle⟩ := JM.most_is s 1 1 l0
    refine s_ret (v := .int (Dr05.most s 1 1 l)) (ev_maxN (ns := l.map fun t => JM.left s t) (el_is (el_lcL (xs := nums l) (fun _ => true) (fun i => V.int (JM.left s (l.getD i 0))) (ev_var rfl) hl (by rw [List.length_map]; omega) (fun _ => rfl) (fun i x H1 e1 hx => et_yes) (fun i x H1 e1 hx _ => ?_)) ?_) ?_ ?_) k
    · obtain ⟨rfl, _⟩ := nums_get hx
      exact ev_call (ea_cons (ev_var rfl) (ea_cons (ev_var rfl) (ea_cons (ev_var rfl) ea_nil))) fun H2 e2 Q2 q2 E2 => ⟨c, d, s, l.getD i 0, rfl, ex_l (e1.trans e2) hc, hj.ex (e1.trans e2), wf, q2⟩
    · rw [given_all, List.length_map, map_range l 0 fun t => V.int (JM.left s t), List.map_map]
      rfl
    · rw [em, JM.gain_eq]
      exact List.mem_map.mpr ⟨t0, ht0, rfl⟩
    · intro y hy
      obtain ⟨t, ht, rfl⟩ := List.mem_map.mp hy
      rw [← JM.gain_eq]
      exact hle t ht
theorem scBestOf : FnScope ["costs", "jobs", "sets", "most", "tools"] ["costs", "jobs", "sets"] (defScope sBestOf) := ⟨rfl, rfl, rfl, by decide +kernel, rfl, by decide +kernel, by decide +kernel⟩
theorem ok_bestOf (F : DefAt K mg "best_of" sBestOf ["costs", "jobs", "sets"]) (cM : Cal P w K mg base 5 "most_left" (spMost K)) (cL : Cal P w K mg base 4 "left_by" (spLeft K)) : Cal P w K mg base 6 "best_of" (spBestOf K) := by
  refine F.cal scBestOf (fun vs H Q E h => ?_) (fun f cdv A outer s H vs Q E hr h => ⟨_, pss_cons (ps_set (i := 3) scBestOf.nd rfl (Or.inr rfl) (pe_c cM hr (by decide) (by rfl) (pa_cons (pv 0) (pa_cons (pv 1) (pa_cons (pv 2) pa_nil)))))
    (pss_one (ps_ret (pe_lc (own := [("tools", 4)]) (g := gName 4) (tt := tTest (tOp rEq (tCall (spLeft K) [] E0 (tCons (tVar 0) (tCons (tVar 1) (tCons (tVar 4) tNil)))) (tVar 3)))
      (by rfl) scBestOf.nd (pi_list (pv 2)) (blkOk_by (own := [("tools", 4)]) (N := ["costs", "jobs", "sets", "most", "tools"]) (sc := defScope sBestOf) (by decide +kernel))
      (fun _ _ _ _ _ => pg_name (i := 4) scBestOf.nd rfl (Or.inl rfl)) (fun _ _ _ _ _ => pts_one (pt_cmpR op_eq (pe_c cL hr (by decide) (by rfl) (pa_cons (pv 0) (pa_cons (pv 1) (pa_cons (pv 4) pa_nil)))) (pv 3) (nomark _))) (fun _ _ _ _ _ => pv 4)))), ?_⟩)
  · obtain ⟨c, d, e, s, l, rfl, _⟩ := h
    rfl
  · obtain ⟨c, d, e, s, l, rfl, hc, hj, wf, hl, l0, ll, k⟩ := h
    refine q_asg (v := .int (Dr05.most s 1 1 l)) (ev_call (ea_cons (ev_var rfl) (ea_cons (ev_var rfl) (ea_cons (ev_var rfl) ea_nil))) fun H1 e1 Q1 q1 E1 => ⟨c, d, e, s, l, rfl, ex_l e1 hc, hj.ex e1, wf, ex_l e1 hl, l0, ll, q1⟩) fun H1 e1 => ?_
    refine s_retL (el_is (el_lcL (xs := nums l) (fun i => Dr05.gain s 1 1 (l.getD i 0) == Dr05.most s 1 1 l) (fun i => V.int (l.getD i 0 : Nat)) (ev_var rfl) (ex_l e1 hl) (by rw [List.length_map]; omega) (fun _ => rfl) (fun i x H2 e2 hx => ?_) (fun i x H2 e2 hx _ => ?_)) ?_) fun p H2 hp e2 h2 => k p H2 (fresh_back e1 hp) (e1.trans e2) h2
    · obtain ⟨rfl, _⟩ := nums_get hx
      refine et_is (et_test (ev_op (ev_call (z := .int (JM.left s (l.getD i 0))) (ea_cons (ev_var rfl) (ea_cons (ev_var rfl) (ea_cons (ev_var rfl) ea_nil))) fun H3 e3 Q3 q3 E3 => ⟨c, d, s, l.getD i 0, rfl, ex_l (e1.trans (e2.trans e3)) hc, hj.ex (e1.trans (e2.trans e3)), wf, q3⟩) (ev_var rfl) (rv_eq rfl))) ?_
      rw [JM.gain_eq]
      by_cases hh : JM.left s (l.getD i 0) = Dr05.most s 1 1 l
      · rw [hh]; simp
      · rw [decide_eq_false (fun z => hh (by injection z))]
        exact (beq_eq_false_iff_ne.mpr hh).symm
    · obtain ⟨rfl, _⟩ := nums_get hx
      exact ev_var rfl
    · rw [List.length_map]
      exact given_nums l fun t => Dr05.gain s 1 1 t == Dr05.most s 1 1 l
theorem scWorth : FnScope ["costs", "jobs"] ["costs", "jobs"] (defScope sWorth) := ⟨rfl, rfl, rfl, by decide +kernel, rfl, by decide +kernel, by decide +kernel⟩
/-- three arguments, the last a new list; what a call of a def gives then -/
theorem el_call3 {σ : L2.St} {H : Hp} {t1 t2 t3 : TE} {x y : V} {xs ys : List V} {sp : Sp} {E : XK} (h1 : Ev t1 σ H x) (h2 : Ev t2 σ H y) (h3 : EvL t3 σ H xs) (hs : ∀ p H1, Ex H H1 → H1 p = some (.lst xs) → SpL sp [x, y, .ref p] H1 ys) : EvL (tCall sp [] E (tCons t1 (tCons t2 (tCons t3 tNil)))) σ H ys := fun H0 e Q q =>
  h1 H0 e _ fun H1 e1 => h2 H1 (e.trans e1) _ fun H2 e2 => h3 H2 ((e.trans e1).trans e2) _ fun p H3 hp e3 hl => hs p H3 (((e.trans e1).trans e2).trans e3) hl H3 (Ex.refl _) Q (fun p' H4 hp' e4 h4 => q p' H4 (fresh_back ((e1.trans e2).trans e3) hp') (((e1.trans e2).trans e3).trans e4) h4) E
theorem ev_call3 {σ : L2.St} {H : Hp} {t1 t2 t3 : TE} {x y z : V} {xs : List V} {sp : Sp} {E : XK} (h1 : Ev t1 σ H x) (h2 : Ev t2 σ H y) (h3 : EvL t3 σ H xs) (hs : ∀ p H1, Ex H H1 → H1 p = some (.lst xs) → SpV sp [x, y, .ref p] H1 z) : Ev (tCall sp [] E (tCons t1 (tCons t2 (tCons t3 tNil)))) σ H z := fun H0 e Q q =>
  h1 H0 e _ fun H1 e1 => h2 H1 (e.trans e1) _ fun H2 e2 => h3 H2 ((e.trans e1).trans e2) _ fun p H3 hp e3 hl => hs p H3 (((e.trans e1).trans e2).trans e3) hl H3 (Ex.refl _) Q (fun H4 e4 => q H4 (((e1.trans e2).trans e3).trans e4)) E
theorem ok_worth (F : DefAt K mg "worth_having" sWorth ["costs", "jobs"]) (cB : Cal P w K mg base 6 "best_of" (spBestOf K)) (cA : Cal P w K mg base 2 "all_sets" (spAllSets K)) : Cal P w K mg base 7 "worth_having" (spWorth K) := by
  refine F.cal scWorth (fun vs H Q E h => ?_) (fun f cdv A outer s H vs Q E hr h => ⟨_, pss_one (ps_ret (pe_c cB hr (by decide) (by rfl) (pa_cons (pv 0) (pa_cons (pv 1) (pa_cons (pe_c cA hr (by decide) (by rfl) (pa_cons (pv 0) pa_nil)) pa_nil))))), ?_⟩)
  · obtain ⟨c, d, s, rfl, _⟩ := h
    rfl
  · obtain ⟨c, d, s, rfl, hc, hj, wf, k⟩ := h
    have hp : 2 ^ s.costs.length ≤ 2 ^ 5 := Nat.pow_le_pow_right (by decide) wf.c5
    refine s_retL (el_call3 (xs := nums (Dr05.sets s)) (ev_var rfl) (ev_var rfl) (el_call (ea_cons (ev_var rfl) ea_nil) fun H1 e1 Q1 q1 E1 => ⟨c, nums s.costs, rfl, ex_l e1 hc, by rw [List.length_map]; exact wf.c5, by rw [List.length_map]; exact q1⟩) fun p H1 e1 h1 H2 e2 Q2 q2 E2 => ⟨c, d, p, s, Dr05.sets s, rfl, ex_l (e1.trans e2) hc, hj.ex (e1.trans e2), wf, sq_of (e2 _ _ h1), JM.sets_ne s, by unfold Dr05.sets; rw [List.length_range]; omega, q2⟩) k
end
end J
/-! JShopAt: how a shop lies in the heap, what a call's def promises -/
namespace J
open PySem PySem.Spec PyProof.Rows L2 Evl
open JM (bit costL doneB payL)
open Dr05 (Shop Job)
def flds (c d : Addr) (n : Int) : List (Str × V) := [("costs", .ref c), ("jobs", .ref d), ("last_number", .int n)]
theorem fl_costs (c d : Addr) (n : Int) : (flds c d n).lookup ("costs" : Str) = some (.ref c) := lk_here
theorem fl_jobs (c d : Addr) (n : Int) : (flds c d n).lookup ("jobs" : Str) = some (.ref d) := (lk_past (by decide +kernel)).trans lk_here
theorem fl_last (c d : Addr) (n : Int) : (flds c d n).lookup ("last_number" : Str) = some (.int n) := (lk_past (by decide +kernel)).trans ((lk_past (by decide +kernel)).trans lk_here)
theorem pf_costs (c d e : Addr) (n : Int) : putF "costs" (.ref e) (flds c d n) = flds e d n := put_here
theorem pf_jobs (c d e : Addr) (n : Int) : putF "jobs" (.ref e) (flds c d n) = flds c e n := (put_past (by decide +kernel)).trans (congrArg _ put_here)
theorem pf_last (c d : Addr) (n m : Int) : putF "last_number" (.int m) (flds c d n) = flds c d m := (put_past (by decide +kernel)).trans (congrArg _ ((put_past (by decide +kernel)).trans (congrArg _ put_here)))
theorem fl_len (c d : Addr) (n : Int) : (flds c d n).length < 1000 := by
  show 3 < 1000
  decide
structure ShopAt (C : Addr) (H : Hp) (a c d dx : Addr) (s : Shop) : Prop where
  ins : H a = some (.ins C dx (flds c d ((s.next : Int) - 1)))
  cs : H c = some (.lst (nums s.costs))
  js : JobsAt H d s.jobs
theorem ShopAt.ex {C a c d dx : Addr} {s : Shop} {H H' : Hp} (h : ShopAt C H a c d dx s) (e : Ex H H') : ShopAt C H' a c d dx s := ⟨e _ _ h.ins, e _ _ h.cs, h.js.ex e⟩
theorem sqA {K : PySem.W.Frag} {H H' : Hp} {a b C dx : Addr} {fs : List (Str × V)} {xs : List V} (h : SqL K H b xs) (ha : H a = some (.ins C dx fs)) (e : ExA a H H') : SqL K H' b xs := by
  rcases h with (h | ⟨o, h⟩) | h
  · exact .inl (.inl (e _ _ (ne_of h ha (by intro z; cases z)) h))
  · exact .inl (.inr ⟨o, e _ _ (ne_of h ha (by intro z; cases z)) h⟩)
  · exact .inr h
/-- what follows a call: the shop as the specification has it, the answer a new list, all else as it was -/
def RetC (C : Addr) (H : Hp) (a c d dx : Addr) (r : Shop × List Int) (Q : VK) : Prop := ∀ H' p c' d', ShopAt C H' a c' d' dx r.1 → (c' = c ∨ H c' = none) → (d' = d ∨ H d' = none) → H p = none → H' p = some (.lst (r.2.map V.int)) →
  (∀ b o, b ≠ a → b ≠ c → b ≠ d → H b = some o → H' b = some o) → Q (.ref p) H'
theorem RetC.asks {C a c d dx : Addr} {H : Hp} {s : Shop} {out : List Int} {Q : VK} (k : RetC C H a c d dx (s, out) Q) (h : ShopAt C H a c d dx s) : RetL (out.map V.int) H Q := fun p H2 hp e hl =>
  k H2 p c d (h.ex e) (Or.inl rfl) (Or.inl rfl) hp hl fun b o _ _ _ hb => e b o hb
theorem RetC.one {C a c d dx : Addr} {H : Hp} {s : Shop} {out : List Int} {Q : VK} (k : RetC C H a c d dx (s, out) Q) (h : ShopAt C H a c d dx s) {vs : List V} (e : out.map V.int = vs) : RetL vs H Q := by
  rw [← e]
  exact k.asks h
/-- the promise of the def for the call k -/
def spH (K : PySem.W.Frag) (C : Addr) (k : Nat) : Sp := fun vs H Q _ => ∃ (a b c d dx : Addr) (s : Shop) (ns : List Nat) (cl : Dr05.Call), vs = [.ref a, .ref b] ∧ ShopAt C H a c d dx s ∧ JM.WF s ∧ SqL K H b (nums ns) ∧
  Dr05Neutral.callIn (k :: ns) = some cl ∧ RetC C H a c d dx (Dr05.step s cl) Q
theorem spH_len {K : PySem.W.Frag} {C : Addr} {k : Nat} {vs : List V} {H : Hp} {Q : VK} {E : XK} (h : spH K C k vs H Q E) : vs.length = 2 := by
  obtain ⟨a, b, c, d, dx, s, ns, cl, rfl, _⟩ := h
  rfl
/-- the class, the constants -/
structure Cl (K : PySem.W.Frag) (C : Addr) : Prop where
  cl : Cls K C
  nC : NoAttr K C "costs"
  nJ : NoAttr K C "jobs"
  nL : NoAttr K C "last_number"
structure Csts (mg : Str → Option Value) : Prop where
  tools : Cst mg "MOST_TOOLS" (.int 5)
  jobs : Cst mg "MOST_JOBS" (.int 5)
  price : Cst mg "HIGHEST_PRICE" (.int 1000)
  term : Cst mg "HIGHEST_TERM" (.int 1000)
  taken : Cst mg "NOT_TAKEN" (.int (-1))
  noJob : Cst mg "NO_SUCH_JOB" (.int (-2))
  full : Cst mg "JOBS_FULL" (.int (-5))
section
variable {K : PySem.W.Frag} {C : Addr} {σ : L2.St} {H : Hp} {ta : TE} {a c d dx : Addr} {s : Shop}
theorem ev_costs (T : Cl K C) (h : ShopAt C H a c d dx s) (ha : Ev ta σ H (.ref a)) : Ev (tFld K ta "costs") σ H (.ref c) := ev_fld ha h.ins T.cl T.nC (fl_costs ..)
theorem ev_jobs (T : Cl K C) (h : ShopAt C H a c d dx s) (ha : Ev ta σ H (.ref a)) : Ev (tFld K ta "jobs") σ H (.ref d) := ev_fld ha h.ins T.cl T.nJ (fl_jobs ..)
theorem ev_last (T : Cl K C) (h : ShopAt C H a c d dx s) (ha : Ev ta σ H (.ref a)) : Ev (tFld K ta "last_number") σ H (.int ((s.next : Int) - 1)) := ev_fld ha h.ins T.cl T.nL (fl_last ..)
end
end J
/-! JChanges: the defs of jobtools/changes.py keep their promises -/
namespace J
open PySem PySem.Spec PyProof.Rows L2 Evl
open JM (bit costL doneB payL)
open Dr05 (Shop Job)
abbrev sTell : Stmt := top 18
abbrev sAdd : Stmt := top 19
abbrev sDrop : Stmt := top 20
abbrev sPay : Stmt := top 21
abbrev sSetCost : Stmt := top 22
theorem max_of : ∀ {l : List Nat}, l ≠ [] → ∃ m ∈ l, ∀ y ∈ l, y ≤ m
  | [], h => absurd rfl h
  | [x], _ => ⟨x, List.mem_cons_self, fun y hy => by rw [List.mem_singleton.mp hy]; exact Nat.le_refl _⟩
  | x :: y :: r, _ => by
    obtain ⟨m, h1, h2⟩ := max_of (l := y :: r) (by simp)
    by_cases hc : m ≤ x
    · refine ⟨x, List.mem_cons_self, fun z hz => ?_⟩
      rcases List.mem_cons.mp hz with rfl | hz
      · exact Nat.le_refl _
      · exact Nat.le_trans (h2 z hz) hc
    · refine ⟨m, List.mem_cons_of_mem _ h1, fun z hz => ?_⟩
      rcases List.mem_cons.mp hz with rfl | hz
      · omega
      · exact h2 z hz
theorem dec_int (a b : Int) : decide (V.int a = V.int b) = decide (a = b) := by
  by_cases h : a = b
  · subst h
    simp
  · rw [decide_eq_false h, decide_eq_false fun z => h (by injection z)]
theorem dec_gt (a b : Nat) : decide ((b : Int) < (a : Int)) = decide (b < a) := by
  by_cases h : b < a
  · rw [decide_eq_true h]; exact decide_eq_true (by omega)
  · rw [decide_eq_false h]; exact decide_eq_false (by omega)
theorem dec_ge (a b : Nat) : decide ((b : Int) ≤ (a : Int)) = decide (b ≤ a) := by
  by_cases h : b ≤ a
  · rw [decide_eq_true h]; exact decide_eq_true (by omega)
  · rw [decide_eq_false h]; exact decide_eq_false (by omega)
theorem paired_snoc {α β : Type} {R : α → β → Prop} {x : α} {y : β} : ∀ {l : List α} {m : List β}, Paired R l m → R x y → Paired R (l ++ [x]) (m ++ [y])
  | _, _, .nil, r => .cons r .nil
  | _, _, .cons q t, r => .cons q (paired_snoc t r)
theorem jobs_has {H : Hp} : ∀ {kvs : List (Key × V)} {js : List Job} {n : Nat}, Paired (JobKV H) kvs js → (valV kvs (Sum.inl (n : Int))).isSome = (js.find? fun j => j.num == n).isSome
  | _, _, n, .nil => rfl
  | _, _, n, .cons (a := kv) (b := k) (l₁ := kvs) (l₂ := js) r p => by
    by_cases h : k.num = n
    · subst h
      rw [valV_pos r.1, List.find?_cons, beq_self_eq_true]
      rfl
    · have h1 : ¬ kv.1 = Sum.inl (n : Int) := by
        rw [r.1]
        intro z
        have z := Sum.inl.inj z
        exact h (by omega)
      rw [valV_neg h1, List.find?_cons, beq_eq_false_iff_ne.mpr h]
      exact jobs_has p
theorem jobs_drop {H : Hp} : ∀ {kvs : List (Key × V)} {js : List Job} {n : Nat}, Paired (JobKV H) kvs js → Paired (JobKV H) (dropK kvs (Sum.inl (n : Int))) (js.filter fun j => j.num != n)
  | _, _, n, .nil => .nil
  | _, _, n, .cons (a := kv) (b := k) (l₁ := kvs) (l₂ := js) r p => by
    by_cases h : k.num = n
    · subst h
      rw [dropK_pos r.1, List.filter_cons, if_neg (by simp)]
      exact jobs_drop p
    · have h1 : ¬ kv.1 = Sum.inl (n : Int) := by
        rw [r.1]
        intro z
        have z := Sum.inl.inj z
        exact h (by omega)
      rw [dropK_neg h1, List.filter_cons, if_pos (by simpa using h)]
      exact .cons r (jobs_drop p)
theorem putK_old {kvs : List (Key × V)} {k : Key} {u : V} (v : V) (h : valV kvs k = some u) : putK kvs k v = kvs.map fun kv => if kv.1 = k then (kv.1, v) else kv := by
  unfold putK
  rw [if_pos (by rw [valV_any, h]; rfl)]
theorem jobs_pay {H : Hp} {p1 : Addr} {n v m : Nat} (h1 : H p1 = some (.tup [.int (v : Int), .int (m : Int)])) : ∀ {kvs : List (Key × V)} {js : List Job}, Paired (JobKV H) kvs js → (∀ j ∈ js, j.num = n → j.needs = m) →
    Paired (JobKV H) (kvs.map fun kv => if kv.1 = Sum.inl (n : Int) then (kv.1, V.ref p1) else kv) (js.map fun j => if j.num = n then { j with pay := v } else j)
  | _, _, .nil, _ => .nil
  | _, _, .cons (a := kv) (b := k) (l₁ := kvs) (l₂ := js) r p, h => by
    rw [List.map_cons, List.map_cons]
    refine .cons ?_ (jobs_pay h1 p fun j hj => h j (List.mem_cons_of_mem _ hj))
    by_cases hn : k.num = n
    · rw [if_pos hn, if_pos (by rw [r.1, hn])]
      refine ⟨r.1, p1, rfl, ?_⟩
      rw [h1, ← h k List.mem_cons_self hn]
    · rw [if_neg hn, if_neg]
      · exact r
      · rw [r.1]
        intro z
        have z := Sum.inl.inj z
        exact hn (by omega)
section
variable {P : Program} {w : World} {K : PySem.W.Frag} {mg : Str → Option Value} {base : Heap} {C : Addr}
theorem scTell : FnScope ["shop", "costs"] ["shop", "costs"] (defScope sTell) := ⟨rfl, rfl, rfl, by decide +kernel, rfl, by decide +kernel, by decide +kernel⟩
theorem ok_tell (F : DefAt K mg "tell_tools" sTell ["shop", "costs"]) (B : Blt mg) (T : Cl K C) (G : Csts mg) : Cal P w K mg base 1 "tell_tools" (spH K C 0) := by
  refine F.cal scTell (fun vs H Q E h => spH_len h) (fun f cdv A outer s H vs Q E hr h => ⟨_, pss_cons (ps_if (PW.pt (pw_or (pt_cmpR op_eq (pe_callB call_len_seq (by rfl) B.len PySem.boot_len (pa_cons (pv 1) pa_nil)) pe_int (nomark _))
      (pw_or (pt_cmpR op_gt (pe_callB call_len_seq (by rfl) B.len PySem.boot_len (pa_cons (pv 1) pa_nil)) (pe_gc G.tools (by rfl)) (nomark _))
      (pw_or1 (pt_cmpR op_gt (pe_callB (cr_max rfl) (by rfl) B.max (by decide +kernel) (pa_cons (pv 1) pa_nil)) (pe_gc G.price (by rfl)) (nomark _))))))
      (pss_one (ps_ret (pe_lst (pa_cons (pe_gc G.taken (by rfl)) pa_nil)))) pss_nil)
    (pss_cons (ps_fld (pv 0) (pe_callTy call_list_of (by rfl) B.lst (by decide +kernel) (pa_cons (pv 1) pa_nil)) rfl)
    (pss_cons (ps_fld (pv 0) pe_dnewK rfl)
    (pss_cons (ps_fld (pv 0) pe_int rfl)
    (pss_one (ps_ret (pe_lst (pa_cons (pe_callB call_len_seq (by rfl) B.len PySem.boot_len (pa_cons (pv 1) pa_nil)) pa_nil))))))), ?_⟩)
  obtain ⟨a, b, c, d, dx, s, l, cl, rfl, S, wf, hb, hcl, k⟩ := h
  cases JM.in0 hcl
  have hlen : Ev (tCB (rLenS K) (tCons (tVar 1) tNil)) (start ["shop", "costs"] [.ref a, .ref b]) H (.int (l.length : Int)) := ev_is (ev_len (ev_var rfl) hb) (by rw [List.length_map])
  have key : ∃ bb, (bb = true ↔ (l.isEmpty = true ∨ 5 < l.length ∨ l.all (fun c => decide (c ≤ 1000)) = false)) ∧ EvT (tOr (tTest (tOp rEq (tCB (rLenS K) (tCons (tVar 1) tNil)) (tC (.int 0)))) (tOr (tTest (tOp (rI0 fun i j => .bl (decide (j < i))) (tCB (rLenS K) (tCons (tVar 1) tNil)) (tC (.int 5)))) (tTest (tOp (rI0 fun i j => .bl (decide (j < i))) (tCB (rMax K) (tCons (tVar 1) tNil)) (tC (.int 1000))))))
      (start ["shop", "costs"] [.ref a, .ref b]) H bb := by
    by_cases h0 : l = []
    · subst h0
      refine ⟨true, ⟨fun _ => Or.inl rfl, fun _ => rfl⟩, et_orT (et_is (et_test (ev_op hlen ev_c (rv_eq rfl))) rfl)⟩
    · have n0 : l.length ≠ 0 := fun z => h0 (List.length_eq_zero_iff.mp z)
      have t0 : EvT (tTest (tOp rEq (tCB (rLenS K) (tCons (tVar 1) tNil)) (tC (.int 0)))) (start ["shop", "costs"] [.ref a, .ref b]) H false := et_is (et_test (ev_op hlen ev_c (rv_eq rfl))) (by rw [dec_int]; exact decide_eq_false (by omega))
      by_cases h5 : 5 < l.length
      · refine ⟨true, ⟨fun _ => Or.inr (Or.inl h5), fun _ => rfl⟩, et_orF t0 (et_orT (et_is (et_test (ev_op hlen ev_c rv_I0)) (decide_eq_true (by omega))))⟩
      · obtain ⟨m, hm, hle⟩ := max_of h0
        refine ⟨decide (1000 < m), ?_, et_orF t0 (et_orF (et_is (et_test (ev_op hlen ev_c rv_I0)) (decide_eq_false (by omega))) (et_is (et_test (ev_op (ev_maxL (ns := l.map fun (n : Nat) => (n : Int)) (m := (m : Int)) (ev_var rfl) (by rw [← nums_map]; exact hb)
          (List.mem_map.mpr ⟨m, hm, rfl⟩) (fun y hy => by obtain ⟨z, hz, rfl⟩ := List.mem_map.mp hy; have := hle z hz; omega)) ev_c rv_I0)) ?_))⟩
        · rw [decide_eq_true_iff]
          constructor
          · intro hh
            refine Or.inr (Or.inr ?_)
            rw [List.all_eq_false]
            exact ⟨m, hm, by simp; omega⟩
          · rintro (hh | hh | hh)
            · exact absurd (List.isEmpty_iff.mp hh) h0
            · exact absurd hh h5
            · rw [List.all_eq_false] at hh
              obtain ⟨x, hx, hh⟩ := hh
              have := hle x hx
              simp at hh
              omega
        · by_cases hh : 1000 < m
          · rw [decide_eq_true hh]; exact decide_eq_true (by omega)
          · rw [decide_eq_false hh]; exact decide_eq_false (by omega)
  obtain ⟨bb, hbb, ht⟩ := key
  refine q_when ht (fun e H1 e1 => ?_) (fun e H1 e1 => ?_)
  · have k' : RetC C H a c d dx (s, [-1]) Q := by
      have q : Dr05.step s (.tools l) = (s, [-1]) := if_pos (hbb.mp e)
      rw [q] at k
      exact k
    exact s_retL (el_lst (ea_cons ev_c ea_nil) (by show 1 ≤ 100000; decide)) fun p H2 hp e2 h2 => k'.asks S p H2 (fresh_back e1 hp) (e1.trans e2) h2
  · have q : Dr05.step s (.tools l) = (⟨l, [], 1⟩, [(l.length : Int)]) := if_neg fun z => by rw [hbb.mpr z] at e; cases e
    rw [q] at k
    have S1 := S.ex e1
    refine q_fldL (el_list (ev_var rfl) (ex_l e1 hb)) (ev_var rfl) S1.ins T.cl T.nC (fl_len ..) fun p1 H2 hp1 e2 h2 => ?_
    rw [pf_costs]
    have n1 : p1 ≠ a := (ne_of_none S1.ins hp1).symm
    refine q_fldD (ev_var rfl) upd_same T.cl T.nJ (fl_len ..) fun p2 H3 hp2 e3 h3 => ?_
    rw [pf_jobs]
    have n2 : p2 ≠ a := (ne_of_none upd_same hp2).symm
    refine q_fld ev_c (ev_var rfl) upd_same T.cl T.nL (fl_len ..) fun H4 e4 => ?_
    rw [pf_last]
    have x1 : ExA a H H2 := ExA.of (e1.trans e2)
    have x2 : ExA a H H3 := (x1.trans ExA.put).trans (ExA.of e3)
    have x3 : ExA a H H4 := (x2.trans ExA.put).trans (ExA.of e4)
    have y1 : H4 p1 = some (.lst (nums l)) := e4 _ _ (by rw [upd_ne n1]; exact e3 _ _ (by rw [upd_ne n1]; exact h2))
    have y2 : H4 p2 = some (.dK []) := e4 _ _ (by rw [upd_ne n2]; exact h3)
    have z2 : H p2 = none := by
      cases q2 : H p2 with
      | none => rfl
      | some o =>
        rw [upd_ne n2, x1 p2 o n2 q2] at hp2
        cases hp2
    have x4 : ExA a H (upd H4 a (.ins C dx (flds p1 p2 0))) := x3.trans ExA.put
    refine s_retL (el_lst (ea_cons (ev_is (ev_len (ev_var rfl) (sqA hb S.ins x4)) (by rw [List.length_map])) ea_nil) (by show 1 ≤ 100000; decide)) fun p H5 hp e5 h5 => ?_
    have np : p ≠ a := (ne_of_none upd_same hp).symm
    refine k H5 p p1 p2 ⟨e5 _ _ upd_same, e5 _ _ (by rw [upd_ne n1]; exact y1), ⟨[], e5 _ _ (by rw [upd_ne n2]; exact y2), .nil⟩⟩ (Or.inr (fresh_back e1 hp1)) (Or.inr z2) ?_ h5 fun b o n _ _ h => e5 _ _ (x4 b o n h)
    cases q2 : H p with
    | none => rfl
    | some o =>
      rw [x4 p o np q2] at hp
      cases hp
theorem scAdd : FnScope ["shop", "numbers", "pays", "needs"] ["shop", "numbers"] (defScope sAdd) := ⟨rfl, rfl, rfl, by decide +kernel, rfl, by decide +kernel, by decide +kernel⟩
theorem ok_add (F : DefAt K mg "add_job" sAdd ["shop", "numbers"]) (B : Blt mg) (T : Cl K C) (G : Csts mg) (cS : Cal P w K mg base 2 "is_set" (spIsSet K)) : Cal P w K mg base 3 "add_job" (spH K C 1) := by
  refine F.cal scAdd (fun vs H Q E h => spH_len h) (fun f cdv A outer s H vs Q E hr h => ⟨_, pss_cons (ps_set (i := 2) scAdd.nd rfl (Or.inl rfl) (pe_ix ix_list (pv 1) pe_int (fun _ _ => rfl)))
    (pss_cons (ps_set (i := 3) scAdd.nd rfl (Or.inl rfl) (pe_ix ix_list (pv 1) pe_int (fun _ _ => rfl)))
    (pss_cons (ps_if (PW.pt (pw_or (pt_cmpR op_gt (pv 2) (pe_gc G.price (by rfl)) (nomark _))
      (pw_or (pt_cmpR op_eq (pv 3) pe_int (nomark _))
      (pw_or1 (pt_not (pt_val (pe_c cS hr (by decide) (by rfl) (pa_cons (pe_fld (pv 0) rfl) (pa_cons (pv 3) pa_nil)))))))))
      (pss_one (ps_ret (pe_lst (pa_cons (pe_gc G.taken (by rfl)) pa_nil)))) pss_nil)
    (pss_cons (ps_if (pt_cmpR op_ge (pe_callB call_lenD (by rfl) B.len PySem.boot_len (pa_cons (pe_fld (pv 0) rfl) pa_nil)) (pe_gc G.jobs (by rfl)) (nomark _))
      (pss_one (ps_ret (pe_lst (pa_cons (pe_gc G.full (by rfl)) pa_nil)))) pss_nil)
    (pss_cons (ps_fld (pv 0) (pe_op op_add (pe_fld (pv 0) rfl) pe_int) rfl)
    (pss_cons (ps_dput (hu_of hr) (pe_fld (pv 0) rfl) (pe_fld (pv 0) rfl) (pe_tup (pa_cons (pv 2) (pa_cons (pv 3) pa_nil))) rfl)
    (pss_one (ps_ret (pe_lst (pa_cons (pe_fld (pv 0) rfl) pa_nil))))))))), ?_⟩)
  obtain ⟨a, b, c, d, dx, s, ns, cl, rfl, S, wf, hb, hcl, k⟩ := h
  obtain ⟨p, t, rfl, rfl⟩ := JM.in1 hcl
  refine q_asg (ev_op (ev_var rfl) ev_c (rv_ixL hb (v := .int (p : Int)) (atI_nat (j := 0) rfl))) fun H1 e1 => ?_
  refine q_asg (ev_op (ev_var rfl) ev_c (rv_ixL (ex_l e1 hb) (v := .int (t : Int)) (atI_nat (j := 1) rfl))) fun H2 e2 => ?_
  have e12 := e1.trans e2
  have S2 := S.ex e12
  refine q_when (et_or (a := decide (1000 < p)) (et_is (et_test (ev_op (ev_var rfl) ev_c rv_I0)) (dec_gt p 1000)) fun _ => et_or (a := t == 0) (et_is (et_test (ev_op (ev_var rfl) ev_c (rv_eq rfl))) (dec_nat t 0)) fun _ =>
    et_not (a := decide (t < 2 ^ s.costs.length)) (et_B (ev_call (ea_cons (ev_costs T S2 (ev_var rfl)) (ea_cons (ev_var rfl) ea_nil)) fun H3 e3 Q3 q3 E3 => ⟨c, nums s.costs, t, rfl, sq_of ((S2.ex e3).cs), by rw [List.length_map]; have := wf.c5; omega, by rw [List.length_map]; exact q3⟩))) (fun e H3 e3 => ?_) (fun e H3 e3 => ?_)
  · have k' : RetC C H a c d dx (s, [-1]) Q := by
      have q : Dr05.step s (.job p t) = (s, [-1]) := by
        unfold Dr05.step
        dsimp only
        rw [if_pos]
        simp only [Bool.or_eq_true, decide_eq_true_eq, beq_iff_eq, Bool.not_eq_true', decide_eq_false_iff_not] at e
        rcases e with e | e | e
        · exact Or.inl e
        · exact Or.inr (Or.inr e)
        · exact Or.inr (Or.inl (decide_eq_false e))
      rw [q] at k
      exact k
    exact s_retL (el_lst (ea_cons ev_c ea_nil) (by show 1 ≤ 100000; decide)) fun p H4 hp e4 h4 => k'.asks S p H4 (fresh_back (e12.trans e3) hp) ((e12.trans e3).trans e4) h4
  · simp only [Bool.or_eq_false_iff, decide_eq_false_iff_not, Bool.not_eq_false', decide_eq_true_eq, beq_eq_false_iff_ne] at e
    obtain ⟨r1, r2, r3⟩ := e
    have nr : ¬ (1000 < p ∨ Dr05.isSet s t = false ∨ t = 0) := by
      rintro (z | z | z)
      · exact r1 z
      · exact absurd r3 (of_decide_eq_false z)
      · exact r2 z
    have S3 := S2.ex e3
    have e13 := e12.trans e3
    obtain ⟨kvs, hd, pr⟩ := S3.js
    have hkl : kvs.length = s.jobs.length := paired_len pr
    refine q_when (b := decide (5 ≤ s.jobs.length)) (et_is (et_test (ev_op (ev_lenD (ev_jobs T S3 (ev_var rfl)) hd) ev_c rv_I0)) ?_) (fun e H4 e4 => ?_) (fun e H4 e4 => ?_)
    · rw [hkl]
      exact dec_ge s.jobs.length 5
    · have k' : RetC C H a c d dx (s, [-5]) Q := by
        have q : Dr05.step s (.job p t) = (s, [-5]) := by
          unfold Dr05.step
          dsimp only
          rw [if_neg nr, if_pos (of_decide_eq_true e)]
        rw [q] at k
        exact k
      exact s_retL (el_lst (ea_cons ev_c ea_nil) (by show 1 ≤ 100000; decide)) fun p H5 hp e5 h5 => k'.asks S p H5 (fresh_back (e13.trans e4) hp) ((e13.trans e4).trans e5) h5
    · have q : Dr05.step s (.job p t) = ({ s with jobs := s.jobs ++ [⟨s.next, p, t⟩], next := s.next + 1 }, [(s.next : Int)]) := by
        unfold Dr05.step
        dsimp only
        rw [if_neg nr, if_neg (of_decide_eq_false e)]
        rfl
      rw [q] at k
      have S4 := S3.ex e4
      have e14 := e13.trans e4
      refine q_fld (ev_op (ev_last T S4 (ev_var rfl)) ev_c rv_I0) (ev_var rfl) S4.ins T.cl T.nL (fl_len ..) fun H5 e5 => ?_
      rw [pf_last, show (s.next : Int) - 1 + 1 = (s.next : Int) by omega]
      have S5 := S4.ex e5
      obtain ⟨kvs5, hd5, pr5⟩ := S5.js
      have nd : d ≠ a := ne_of hd5 S5.ins (by intro z; cases z)
      have nc : c ≠ a := ne_of S5.cs S5.ins (by intro z; cases z)
      have ncd : c ≠ d := ne_of S5.cs hd5 (by intro z; cases z)
      refine q_dputU (kvs := kvs5) (k := Sum.inl (s.next : Int)) (eu_tup (ea_cons (ev_var rfl) (ea_cons (ev_var rfl) ea_nil)) (by show 2 ≤ 100000; decide)) (ev_fld (ev_var rfl) upd_same T.cl T.nJ (fl_jobs ..)) (ev_fld (ev_var rfl) upd_same T.cl T.nL (fl_last ..)) (by rw [upd_ne nd]; exact hd5)
        (by rw [paired_len pr5]; have := wf.j5; omega) fun p1 H6 hp1 e6 h6 => ?_
      have hno : valV kvs5 (Sum.inl (s.next : Int)) = none := jobs_no pr5 fun j hj => by have := wf.lt j hj; omega
      rw [putK_new _ hno]
      have np1 : p1 ≠ a := (ne_of_none upd_same hp1).symm
      have np1d : p1 ≠ d := fun z => by
        rw [z, upd_ne nd, hd5] at hp1
        cases hp1
      have ha6 : H6 a = some (.ins C dx (flds c d (s.next : Int))) := e6 _ _ upd_same
      have x6 : ∀ b o, b ≠ a → H b = some o → H6 b = some o := fun b o n h => e6 _ _ (by rw [upd_ne n]; exact (e14.trans e5) _ _ h)
      refine s_retL (el_lst (ea_cons (ev_fld (ev_var rfl) (by rw [upd_ne nd.symm]; exact ha6) T.cl T.nL (fl_last ..)) ea_nil) (by show 1 ≤ 100000; decide)) fun p2 H7 hp2 e7 h7 => ?_
      have np2 : p2 ≠ a := (ne_of_none (by rw [upd_ne nd.symm]; exact ha6) hp2).symm
      have np2d : p2 ≠ d := (ne_of_none upd_same hp2).symm
      have tp : ∀ b xs, H5 b = some (.tup xs) → H7 b = some (.tup xs) := fun b xs h => e7 _ _ (by
        rw [upd_ne (ne_of h hd5 (by intro z; cases z))]
        exact e6 _ _ (by rw [upd_ne (ne_of h S5.ins (by intro z; cases z))]; exact h))
      refine k H7 p2 c d ⟨?_, ?_, ⟨_, e7 _ _ upd_same, ?_⟩⟩ (Or.inl rfl) (Or.inl rfl) ?_ h7 fun b o n1 n2 n3 h => e7 _ _ (by rw [upd_ne n3]; exact x6 b o n1 h)
      · rw [e7 _ _ (by rw [upd_ne nd.symm]; exact ha6)]
        show some (HO.ins C dx (flds c d (s.next : Int))) = some (HO.ins C dx (flds c d (((s.next + 1 : Nat) : Int) - 1)))
        rw [show (((s.next + 1 : Nat) : Int) - 1) = (s.next : Int) by omega]
      · exact e7 _ _ (by rw [upd_ne ncd]; exact e6 _ _ (by rw [upd_ne nc]; exact S5.cs))
      · exact paired_snoc (jobs_ex tp pr5) ⟨rfl, p1, rfl, e7 _ _ (by rw [upd_ne np1d]; exact h6)⟩
      · cases q2 : H p2 with
        | none => rfl
        | some o =>
          rw [upd_ne np2d, x6 p2 o np2 q2] at hp2
          cases hp2
theorem scDrop : FnScope ["shop", "numbers", "number"] ["shop", "numbers"] (defScope sDrop) := ⟨rfl, rfl, rfl, by decide +kernel, rfl, by decide +kernel, by decide +kernel⟩
theorem ok_drop (F : DefAt K mg "drop_job" sDrop ["shop", "numbers"]) (B : Blt mg) (T : Cl K C) (G : Csts mg) : Cal P w K mg base 1 "drop_job" (spH K C 2) := by
  refine F.cal scDrop (fun vs H Q E h => spH_len h) (fun f cdv A outer s H vs Q E hr h => ⟨_, pss_cons (ps_set (i := 2) scDrop.nd rfl (Or.inl rfl) (pe_ix ix_list (pv 1) pe_int (fun _ _ => rfl)))
    (pss_cons (ps_if (pt_cmp (pc_dnotin (hu_of hr) (pv 2) (pe_fld (pv 0) rfl))) (pss_one (ps_ret (pe_lst (pa_cons (pe_gc G.noJob (by rfl)) pa_nil)))) pss_nil)
    (pss_cons (ps_expr (pe_dpop1 (pe_fld (pv 0) rfl) (pv 2) ⟨rfl, rfl, rfl, rfl⟩))
    (pss_one (ps_ret (pe_lst (pa_cons (pe_callB call_lenD (by rfl) B.len PySem.boot_len (pa_cons (pe_fld (pv 0) rfl) pa_nil)) pa_nil)))))), ?_⟩)
  obtain ⟨a, b, c, d, dx, s, ns, cl, rfl, S, wf, hb, hcl, k⟩ := h
  obtain ⟨n, rfl, rfl⟩ := JM.in2 hcl
  refine q_asg (ev_op (ev_var rfl) ev_c (rv_ixL hb (v := .int (n : Int)) (atI_nat (j := 0) rfl))) fun H1 e1 => ?_
  have S1 := S.ex e1
  obtain ⟨kvs, hd, pr⟩ := S1.js
  refine q_when (b := !(Dr05.job? s n).isSome) (et_is (et_B (ev_dnotin (k := Sum.inl (n : Int)) (ev_var rfl) (ev_jobs T S1 (ev_var rfl)) (Rd.of hd))) (by rw [jobs_has pr]; rfl)) (fun e H2 e2 => ?_) (fun e H2 e2 => ?_)
  · have k' : RetC C H a c d dx (s, [-2]) Q := by
      have q : Dr05.step s (.gone n) = (s, [-2]) := by
        unfold Dr05.step
        dsimp only
        rw [if_pos]
        rw [Bool.not_eq_true', Option.isSome_eq_false_iff] at e
        exact e
      rw [q] at k
      exact k
    exact s_retL (el_lst (ea_cons ev_c ea_nil) (by show 1 ≤ 100000; decide)) fun p H3 hp e3 h3 => k'.asks S p H3 (fresh_back (e1.trans e2) hp) ((e1.trans e2).trans e3) h3
  · have hs : (Dr05.job? s n).isSome = true := by
      cases hh : (Dr05.job? s n).isSome with
      | true => rfl
      | false => rw [hh] at e; cases e
    have q : Dr05.step s (.gone n) = ({ s with jobs := s.jobs.filter fun j => j.num != n }, [((s.jobs.length - 1 : Nat) : Int)]) := by
      unfold Dr05.step
      dsimp only
      rw [if_neg]
      · rfl
      · intro z
        rw [Option.isNone_iff_eq_none] at z
        rw [z] at hs
        cases hs
    rw [q] at k
    have S2 := S1.ex e2
    have hd2 := e2 _ _ hd
    have hv : (valV kvs (Sum.inl (n : Int))).isSome = true := by rw [jobs_has pr]; exact hs
    obtain ⟨v, hv⟩ := Option.isSome_iff_exists.mp hv
    refine q_dpop (kvs := kvs) (k := Sum.inl (n : Int)) (ev_jobs T S2 (ev_var rfl)) (ev_var rfl) hd2 hv fun H3 e3 => ?_
    have S3 := S2.ex e3
    have hd3 := e3 _ _ hd2
    have nd : d ≠ a := ne_of hd3 S3.ins (by intro z; cases z)
    have ncd : c ≠ d := ne_of S3.cs hd3 (by intro z; cases z)
    have pr3 : Paired (JobKV H3) kvs s.jobs := jobs_ex (fun b xs h => (e2.trans e3) _ _ h) pr
    have prd := jobs_drop (n := n) pr3
    refine s_retL (el_lst (ea_cons (ev_lenD (kvs := dropK kvs (Sum.inl (n : Int))) (ev_fld (ev_var rfl) (by rw [upd_ne nd.symm]; exact S3.ins) T.cl T.nJ (fl_jobs ..)) upd_same) ea_nil) (by show 1 ≤ 100000; decide)) fun p H4 hp e4 h4 => ?_
    have npd : p ≠ d := (ne_of_none upd_same hp).symm
    have e03 := (e1.trans e2).trans e3
    refine k H4 p c d ⟨e4 _ _ (by rw [upd_ne nd.symm]; exact S3.ins), e4 _ _ (by rw [upd_ne ncd]; exact S3.cs), ⟨_, e4 _ _ upd_same, jobs_ex (fun b xs h => e4 _ _ (by rw [upd_ne (ne_of h hd3 (by intro z; cases z))]; exact h)) prd⟩⟩ (Or.inl rfl) (Or.inl rfl) ?_ ?_
      fun b o n1 n2 n3 h => e4 _ _ (by rw [upd_ne n3]; exact e03 _ _ h)
    · rw [upd_ne npd] at hp
      exact fresh_back e03 hp
    · rw [h4, paired_len prd, JM.drop_len wf.nd hs]
      rfl
theorem scPay : FnScope ["shop", "numbers", "number", "pays"] ["shop", "numbers"] (defScope sPay) := ⟨rfl, rfl, rfl, by decide +kernel, rfl, by decide +kernel, by decide +kernel⟩
theorem ok_pay (F : DefAt K mg "set_pay" sPay ["shop", "numbers"]) (B : Blt mg) (T : Cl K C) (G : Csts mg) : Cal P w K mg base 1 "set_pay" (spH K C 3) := by
  refine F.cal scPay (fun vs H Q E h => spH_len h) (fun f cdv A outer s H vs Q E hr h => ⟨_, pss_cons (ps_set (i := 2) scPay.nd rfl (Or.inl rfl) (pe_ix ix_list (pv 1) pe_int (fun _ _ => rfl)))
    (pss_cons (ps_set (i := 3) scPay.nd rfl (Or.inl rfl) (pe_ix ix_list (pv 1) pe_int (fun _ _ => rfl)))
    (pss_cons (ps_if (pt_cmpR op_gt (pv 3) (pe_gc G.price (by rfl)) (nomark _)) (pss_one (ps_ret (pe_lst (pa_cons (pe_gc G.taken (by rfl)) pa_nil)))) pss_nil)
    (pss_cons (ps_if (pt_cmp (pc_dnotin (hu_of hr) (pv 2) (pe_fld (pv 0) rfl))) (pss_one (ps_ret (pe_lst (pa_cons (pe_gc G.noJob (by rfl)) pa_nil)))) pss_nil)
    (pss_cons (ps_dput (hu_of hr) (pe_fld (pv 0) rfl) (pv 2) (pe_tup (pa_cons (pv 3) (pa_cons (pe_ix ix_tup (pe_dget (hu_of hr) (pe_fld (pv 0) rfl) (pv 2) (fun _ _ => rfl)) pe_int (fun _ _ => rfl)) pa_nil))) rfl)
    (pss_one (ps_ret (pe_lst (pa_cons pe_int pa_nil)))))))), ?_⟩)
  obtain ⟨a, b, c, d, dx, s, ns, cl, rfl, S, wf, hb, hcl, k⟩ := h
  obtain ⟨n, v, rfl, rfl⟩ := JM.in3 hcl
  refine q_asg (ev_op (ev_var rfl) ev_c (rv_ixL hb (v := .int (n : Int)) (atI_nat (j := 0) rfl))) fun H1 e1 => ?_
  refine q_asg (ev_op (ev_var rfl) ev_c (rv_ixL (ex_l e1 hb) (v := .int (v : Int)) (atI_nat (j := 1) rfl))) fun H2 e2 => ?_
  have e02 := e1.trans e2
  refine q_when (b := decide (1000 < v)) (et_is (et_test (ev_op (ev_var rfl) ev_c rv_I0)) (dec_gt v 1000)) (fun e H3 e3 => ?_) (fun e H3 e3 => ?_)
  · have k' : RetC C H a c d dx (s, [-1]) Q := by
      have q : Dr05.step s (.pay n v) = (s, [-1]) := if_pos (of_decide_eq_true e)
      rw [q] at k
      exact k
    exact s_retL (el_lst (ea_cons ev_c ea_nil) (by show 1 ≤ 100000; decide)) fun p H4 hp e4 h4 => k'.asks S p H4 (fresh_back (e02.trans e3) hp) ((e02.trans e3).trans e4) h4
  · have e03 := e02.trans e3
    have S3 := S.ex e03
    obtain ⟨kvs, hd, pr⟩ := S3.js
    have q0 : Dr05.step s (.pay n v) = if (Dr05.job? s n).isNone = true then (s, [-2]) else ({ s with jobs := s.jobs.map fun j => if j.num = n then { j with pay := v } else j }, [0]) := if_neg (of_decide_eq_false e)
    rw [q0] at k
    refine q_when (b := !(Dr05.job? s n).isSome) (et_is (et_B (ev_dnotin (k := Sum.inl (n : Int)) (ev_var rfl) (ev_jobs T S3 (ev_var rfl)) (Rd.of hd))) (by rw [jobs_has pr]; rfl)) (fun e H4 e4 => ?_) (fun e H4 e4 => ?_)
    · rw [Bool.not_eq_true', Option.isSome_eq_false_iff] at e
      rw [if_pos e] at k
      exact s_retL (el_lst (ea_cons ev_c ea_nil) (by show 1 ≤ 100000; decide)) fun p H5 hp e5 h5 => k.asks S p H5 (fresh_back (e03.trans e4) hp) ((e03.trans e4).trans e5) h5
    · have hs : (Dr05.job? s n).isSome = true := by
        cases hh : (Dr05.job? s n).isSome with
        | true => rfl
        | false => rw [hh] at e; cases e
      rw [if_neg (fun z => by rw [Option.isNone_iff_eq_none] at z; rw [z] at hs; cases hs)] at k
      obtain ⟨j, hj⟩ := Option.isSome_iff_exists.mp hs
      have hjm : j ∈ s.jobs := List.mem_of_find?_eq_some hj
      have hjn : j.num = n := by
        have z := List.find?_some hj
        simpa using z
      have e04 := e03.trans e4
      have S4 := S3.ex e4
      have hd4 := e4 _ _ hd
      have pr4 : Paired (JobKV H4) kvs s.jobs := jobs_ex (fun b xs h => e4 _ _ h) pr
      obtain ⟨t1, v1, v2⟩ := jobs_val pr4 wf.nd j hjm
      rw [hjn] at v1
      refine q_dputU (kvs := kvs) (k := Sum.inl (n : Int)) (xs := [.int (v : Int), .int (j.needs : Int)]) (eu_tup (ea_cons (ev_var rfl) (ea_cons (ev_op (ev_dget (k := Sum.inl (n : Int)) (ev_jobs T S4 (ev_var rfl)) (ev_var rfl) (Rd.of hd4) v1) ev_c (rv_ixT (st_of v2) (atI_nat (j := 1) rfl))) ea_nil)) (by show 2 ≤ 100000; decide))
        (ev_jobs T S4 (ev_var rfl)) (ev_var rfl) hd4 (by rw [paired_len pr4]; have := wf.j5; omega) fun p1 H5 hp1 e5 h5 => ?_
      have S5 := S4.ex e5
      have hd5 := e5 _ _ hd4
      have nd : d ≠ a := ne_of hd5 S5.ins (by intro z; cases z)
      have ncd : c ≠ d := ne_of S5.cs hd5 (by intro z; cases z)
      have np1d : p1 ≠ d := ne_of h5 hd5 (by intro z; cases z)
      have e05 := e04.trans e5
      refine s_retL (el_lst (ea_cons ev_c ea_nil) (by show 1 ≤ 100000; decide)) fun p2 H6 hp2 e6 h6 => ?_
      have np2d : p2 ≠ d := (ne_of_none upd_same hp2).symm
      have tp : ∀ b xs, H5 b = some (.tup xs) → H6 b = some (.tup xs) := fun b xs h => e6 _ _ (by rw [upd_ne (ne_of h hd5 (by intro z; cases z))]; exact h)
      refine k H6 p2 c d ⟨e6 _ _ (by rw [upd_ne nd.symm]; exact S5.ins), e6 _ _ (by rw [upd_ne ncd]; exact S5.cs), ⟨_, e6 _ _ upd_same, ?_⟩⟩ (Or.inl rfl) (Or.inl rfl) ?_ h6 fun b o n1 n2 n3 h => e6 _ _ (by rw [upd_ne n3]; exact e05 _ _ h)
      · rw [putK_old (.ref p1) v1]
        refine jobs_pay (tp _ _ h5) (jobs_ex (fun b xs h => tp b xs (e5 _ _ h)) pr4) fun j' hj' en => ?_
        have ej : j' = j := JM.nodup_inj wf.nd hj' hjm (en.trans hjn.symm)
        rw [ej]
      · rw [upd_ne np2d] at hp2
        exact fresh_back e05 hp2
theorem scSetCost : FnScope ["shop", "numbers", "tool", "cost"] ["shop", "numbers"] (defScope sSetCost) := ⟨rfl, rfl, rfl, by decide +kernel, rfl, by decide +kernel, by decide +kernel⟩
theorem ok_setCost (F : DefAt K mg "set_cost" sSetCost ["shop", "numbers"]) (B : Blt mg) (T : Cl K C) (G : Csts mg) (cI : Cal P w K mg base 1 "is_tool" (spIsTool K)) : Cal P w K mg base 2 "set_cost" (spH K C 4) := by
  refine F.cal scSetCost (fun vs H Q E h => spH_len h) (fun f cdv A outer s H vs Q E hr h => ⟨_, pss_cons (ps_set (i := 2) scSetCost.nd rfl (Or.inl rfl) (pe_ix ix_list (pv 1) pe_int (fun _ _ => rfl)))
    (pss_cons (ps_set (i := 3) scSetCost.nd rfl (Or.inl rfl) (pe_ix ix_list (pv 1) pe_int (fun _ _ => rfl)))
    (pss_cons (ps_if (PW.pt (pw_or (pt_not (pt_val (pe_c cI hr (by decide) (by rfl) (pa_cons (pe_fld (pv 0) rfl) (pa_cons (pv 2) pa_nil)))))
      (pw_or1 (pt_cmpR op_gt (pv 3) (pe_gc G.price (by rfl)) (nomark _))))) (pss_one (ps_ret (pe_lst (pa_cons (pe_gc G.taken (by rfl)) pa_nil)))) pss_nil)
    (pss_cons (ps_asg (pv 3) (pg_sub (pe_fld (pv 0) rfl) (pe_op op_sub (pv 2) pe_int) set_list))
    (pss_one (ps_ret (pe_lst (pa_cons pe_int pa_nil))))))), ?_⟩)
  obtain ⟨a, b, c, d, dx, s, ns, cl, rfl, S, wf, hb, hcl, k⟩ := h
  obtain ⟨i, v, rfl, rfl⟩ := JM.in4 hcl
  refine q_asg (ev_op (ev_var rfl) ev_c (rv_ixL hb (v := .int (i : Int)) (atI_nat (j := 0) rfl))) fun H1 e1 => ?_
  refine q_asg (ev_op (ev_var rfl) ev_c (rv_ixL (ex_l e1 hb) (v := .int (v : Int)) (atI_nat (j := 1) rfl))) fun H2 e2 => ?_
  have e02 := e1.trans e2
  have S2 := S.ex e02
  refine q_when (et_or (a := !(decide (1 ≤ i) && decide (i ≤ s.costs.length))) (et_not (et_B (ev_call (ea_cons (ev_costs T S2 (ev_var rfl)) (ea_cons (ev_var rfl) ea_nil)) fun H3 e3 Q3 q3 E3 => ⟨c, nums s.costs, i, rfl, sq_of ((S2.ex e3).cs), by rw [List.length_map]; exact q3⟩))) fun _ =>
    (et_is (b := decide (1000 < v)) (et_test (ev_op (ev_var rfl) ev_c rv_I0)) (dec_gt v 1000))) (fun e H3 e3 => ?_) (fun e H3 e3 => ?_)
  · have k' : RetC C H a c d dx (s, [-1]) Q := by
      have q : Dr05.step s (.cost i v) = (s, [-1]) := by
        unfold Dr05.step
        dsimp only
        rw [if_pos]
        simp only [Bool.or_eq_true, Bool.not_eq_true', decide_eq_true_eq] at e
        exact e
      rw [q] at k
      exact k
    exact s_retL (el_lst (ea_cons ev_c ea_nil) (by show 1 ≤ 100000; decide)) fun p H4 hp e4 h4 => k'.asks S p H4 (fresh_back (e02.trans e3) hp) ((e02.trans e3).trans e4) h4
  · simp only [Bool.or_eq_false_iff, Bool.not_eq_false', Bool.and_eq_true, decide_eq_true_eq, decide_eq_false_iff_not] at e
    have q : Dr05.step s (.cost i v) = ({ s with costs := s.costs.set (i - 1) v }, [0]) := by
      unfold Dr05.step
      dsimp only
      rw [if_neg]
      unfold Dr05.isTool
      simp only [Bool.and_eq_false_iff, decide_eq_false_iff_not]
      omega
    rw [q] at k
    have e03 := e02.trans e3
    have S3 := S.ex e03
    obtain ⟨kvs, hd, pr⟩ := S3.js
    have nc : c ≠ a := ne_of S3.cs S3.ins (by intro z; cases z)
    have ncd : c ≠ d := ne_of S3.cs hd (by intro z; cases z)
    refine q_setL (j := i - 1) S3.cs (ev_var rfl) (ev_costs T S3 (ev_var rfl)) (ev_is (ev_op (ev_var rfl) ev_c rv_I0) (congrArg V.int (by omega))) (by rw [List.length_map]; omega) fun H4 e4 => ?_
    have S4 := S3.ex e4
    have hd4 := e4 _ _ hd
    have e04 := e03.trans e4
    have pr4 : Paired (JobKV H4) kvs s.jobs := jobs_ex (fun b xs h => e4 _ _ h) pr
    refine s_retL (el_lst (ea_cons ev_c ea_nil) (by show 1 ≤ 100000; decide)) fun p H5 hp e5 h5 => ?_
    have npc : p ≠ c := (ne_of_none upd_same hp).symm
    refine k H5 p c d ⟨e5 _ _ (by rw [upd_ne nc.symm]; exact S4.ins), ?_, ⟨kvs, e5 _ _ (by rw [upd_ne ncd.symm]; exact hd4), jobs_ex (fun b xs h => e5 _ _ (by rw [upd_ne (ne_of h S4.cs (by intro z; cases z))]; exact h)) pr4⟩⟩ (Or.inl rfl) (Or.inl rfl) ?_ h5
      fun b o n1 n2 n3 h => e5 _ _ (by rw [upd_ne n2]; exact e04 _ _ h)
    · rw [e5 _ _ upd_same]
      show some (HO.lst ((nums s.costs).set (i - 1) (V.int (v : Int)))) = some (HO.lst (nums (s.costs.set (i - 1) v)))
      exact congrArg (fun l => some (HO.lst l)) (List.map_set (f := fun (n : Nat) => V.int (n : Int)) (l := s.costs) (i := i - 1) (a := v)).symm
    · rw [upd_ne npc] at hp
      exact fresh_back e04 hp
end
end J
/-! JAsk: the defs of jobtools/questions.py, the tables -/
namespace J
open PySem PySem.Spec PyProof.Rows L2 Evl
open JM (bit costL doneB payL)
open Dr05 (Shop Job)
abbrev sIsChange : Stmt := top 24
abbrev sChange : Stmt := top 25
abbrev sBest : Stmt := top 52
abbrev sLook : Stmt := top 53
abbrev sAsk : Stmt := top 62
theorem RetC.mono {C a c d dx : Addr} {H H2 : Hp} {r : Shop × List Int} {Q : VK} (k : RetC C H a c d dx r Q) (e : Ex H H2) : RetC C H2 a c d dx r Q := fun H' p c' d' S h1 h2 h3 h4 h5 =>
  k H' p c' d' S (h1.imp id (fresh_back e)) (h2.imp id (fresh_back e)) (fresh_back e h3) h4 fun b o n1 n2 n3 h => h5 b o n1 n2 n3 (e b o h)
/-- a def for several calls: by the call's number -/
def spA (K : PySem.W.Frag) (C : Addr) (ok : Nat → Prop) : Sp := fun vs H Q _ => ∃ (a b c d dx : Addr) (s : Shop) (k : Nat) (ns : List Nat) (cl : Dr05.Call), vs = [.ref a, .int (k : Int), .ref b] ∧ ok k ∧ ShopAt C H a c d dx s ∧ JM.WF s ∧ SqL K H b (nums ns) ∧
  Dr05Neutral.callIn (k :: ns) = some cl ∧ RetC C H a c d dx (Dr05.step s cl) Q
theorem spA_len {K : PySem.W.Frag} {C : Addr} {ok : Nat → Prop} {vs : List V} {H : Hp} {Q : VK} {E : XK} (h : spA K C ok vs H Q E) : vs.length = 3 := by
  obtain ⟨a, b, c, d, dx, s, k, ns, cl, rfl, _⟩ := h
  rfl
section
variable {P : Program} {w : World} {K : PySem.W.Frag} {mg : Str → Option Value} {base : Heap} {C : Addr}
theorem scBest : FnScope ["shop", "numbers", "sets", "left"] ["shop", "numbers"] (defScope sBest) := ⟨rfl, rfl, rfl, by decide +kernel, rfl, by decide +kernel, by decide +kernel⟩
theorem ok_best (F : DefAt K mg "tell_best" sBest ["shop", "numbers"]) (B : Blt mg) (T : Cl K C) (cW : Cal P w K mg base 7 "worth_having" (spWorth K)) (cL : Cal P w K mg base 4 "left_by" (spLeft K)) (cA : Cal P w K mg base 1 "what_all_have" (spAllHave K)) (cO : Cal P w K mg base 1 "what_some_has" (spSomeHas K)) :
    Cal P w K mg base 8 "tell_best" (spH K C 5) := by
  refine F.cal scBest (fun vs H Q E h => spH_len h) (fun f cdv A outer s H vs Q E hr h => ⟨_, pss_cons (ps_set (i := 2) scBest.nd rfl (Or.inl rfl) (pe_c cW hr (by decide) (by rfl) (pa_cons (pe_fld (pv 0) rfl) (pa_cons (pe_fld (pv 0) rfl) pa_nil))))
    (pss_cons (ps_set (i := 3) scBest.nd rfl (Or.inl rfl) (pe_c cL hr (by decide) (by rfl) (pa_cons (pe_fld (pv 0) rfl) (pa_cons (pe_fld (pv 0) rfl) (pa_cons (pe_ix ix_list (pv 2) pe_int (fun _ _ => rfl)) pa_nil)))))
    (pss_one (ps_ret (pe_lst (pa_cons (pv 3) (pa_cons (pe_callB call_len_seq (by rfl) B.len PySem.boot_len (pa_cons (pv 2) pa_nil)) (pa_cons (pe_c cA hr (by decide) (by rfl) (pa_cons (pv 2) pa_nil)) (pa_cons (pe_c cO hr (by decide) (by rfl) (pa_cons (pv 2) pa_nil)) pa_nil)))))))), ?_⟩)
  obtain ⟨a, b, c, d, dx, s, ns, cl, rfl, S, wf, hb, hcl, k⟩ := h
  obtain ⟨rfl, rfl⟩ := JM.in5 hcl
  obtain ⟨x, r, eb⟩ : ∃ x r, Dr05.best s 1 1 = x :: r := by
    cases e : Dr05.best s 1 1 with
    | nil => exact absurd e (JM.best_ne s 1 1)
    | cons x r => exact ⟨x, r, rfl⟩
  refine q_asgL (xs := nums (x :: r)) (el_call (ea_cons (ev_costs T S (ev_var rfl)) (ea_cons (ev_jobs T S (ev_var rfl)) ea_nil)) fun H1 e1 Q1 q1 E1 => ⟨c, d, s, rfl, sq_of (S.ex e1).cs, (S.ex e1).js, wf.sz, by rw [eb]; exact q1⟩) fun p H1 hp e1 h1 => ?_
  have S1 := S.ex e1
  refine q_asg (v := .int (JM.left s x)) (ev_call (ea_cons (ev_costs T S1 (ev_var rfl)) (ea_cons (ev_jobs T S1 (ev_var rfl)) (ea_cons (ev_op (ev_var rfl) ev_c (rv_ixL (sq_of h1) (v := .int (x : Int)) (atI_nat (j := 0) rfl))) ea_nil))) fun H2 e2 Q2 q2 E2 => ⟨c, d, s, x, rfl, sq_of (S1.ex e2).cs, (S1.ex e2).js, wf.sz, q2⟩) fun H2 e2 => ?_
  have h2 := e2 _ _ h1
  refine s_retL (el_lst (ea_cons (ev_var rfl) (ea_cons (ev_len (ev_var rfl) (sq_of h2)) (ea_cons (ev_call (z := .int ((x :: r).foldl Nat.land x : Nat)) (ea_cons (ev_var rfl) ea_nil) fun H3 e3 Q3 q3 E3 => ⟨p, x, r, rfl, sq_of (e3 _ _ h2), q3⟩)
    (ea_cons (ev_call (z := .int ((x :: r).foldl Nat.lor 0 : Nat)) (ea_cons (ev_var rfl) ea_nil) fun H3 e3 Q3 q3 E3 => ⟨p, x :: r, rfl, sq_of (e3 _ _ h2), q3⟩) ea_nil)))) (by show 4 ≤ 100000; decide)) fun q H3 hq e3 h3 => k.one S ?_ q H3 (fresh_back (e1.trans e2) hq) ((e1.trans e2).trans e3) h3
  rw [JM.least_eq s 1 1 eb, JM.greatest_eq, eb]
  have hm : Dr05.most s 1 1 (Dr05.sets s) = JM.left s x := by
    have hx : x ∈ Dr05.best s 1 1 := by rw [eb]; exact List.mem_cons_self
    have z := (List.mem_filter.mp hx).2
    rw [← JM.gain_eq]
    exact (beq_iff_eq.mp z).symm
  rw [hm, List.length_map]
  rfl
theorem scLook : FnScope ["shop", "numbers", "tools", "done", "left"] ["shop", "numbers"] (defScope sLook) := ⟨rfl, rfl, rfl, by decide +kernel, rfl, by decide +kernel, by decide +kernel⟩
theorem ok_look (F : DefAt K mg "look_at" sLook ["shop", "numbers"]) (B : Blt mg) (T : Cl K C) (G : Csts mg) (cS : Cal P w K mg base 2 "is_set" (spIsSet K)) (cD : Cal P w K mg base 2 "done_with" spDone) (cL : Cal P w K mg base 4 "left_by" (spLeft K)) (cC : Cal P w K mg base 1 "cost_of" (spCost K)) :
    Cal P w K mg base 5 "look_at" (spH K C 6) := by
  refine F.cal scLook (fun vs H Q E h => spH_len h) (fun f cdv A outer s H vs Q E hr h => ⟨_, pss_cons (ps_set (i := 2) scLook.nd rfl (Or.inl rfl) (pe_ix ix_list (pv 1) pe_int (fun _ _ => rfl)))
    (pss_cons (ps_if (pt_not (pt_val (pe_c cS hr (by decide) (by rfl) (pa_cons (pe_fld (pv 0) rfl) (pa_cons (pv 2) pa_nil))))) (pss_one (ps_ret (pe_lst (pa_cons (pe_gc G.taken (by rfl)) pa_nil)))) pss_nil)
    (pss_cons (ps_set (i := 3) scLook.nd rfl (Or.inl rfl) (pe_c cD hr (by decide) (by rfl) (pa_cons (pe_fld (pv 0) rfl) (pa_cons (pv 2) pa_nil))))
    (pss_cons (ps_set (i := 4) scLook.nd rfl (Or.inl rfl) (pe_c cL hr (by decide) (by rfl) (pa_cons (pe_fld (pv 0) rfl) (pa_cons (pe_fld (pv 0) rfl) (pa_cons (pv 2) pa_nil)))))
    (pss_one (ps_ret (pe_op op_cat (pe_lst (pa_cons pe_int (pa_cons (pv 4) (pa_cons (pe_c cC hr (by decide) (by rfl) (pa_cons (pe_fld (pv 0) rfl) (pa_cons (pv 2) pa_nil))) (pa_cons (pe_callB call_len_seq (by rfl) B.len PySem.boot_len (pa_cons (pv 3) pa_nil)) pa_nil))))) (pv 3))))))), ?_⟩)
  obtain ⟨a, b, c, d, dx, s, ns, cl, rfl, S, wf, hb, hcl, k⟩ := h
  obtain ⟨t, rfl, rfl⟩ := JM.in6 hcl
  refine q_asg (ev_op (ev_var rfl) ev_c (rv_ixL hb (v := .int (t : Int)) (atI_nat (j := 0) rfl))) fun H1 e1 => ?_
  have S1 := S.ex e1
  have c5 := wf.c5
  have j5 := wf.j5
  refine q_when (et_not (a := decide (t < 2 ^ s.costs.length)) (et_B (ev_call (ea_cons (ev_costs T S1 (ev_var rfl)) (ea_cons (ev_var rfl) ea_nil)) fun H3 e3 Q3 q3 E3 => ⟨c, nums s.costs, t, rfl, sq_of ((S1.ex e3).cs), by rw [List.length_map]; omega, by rw [List.length_map]; exact q3⟩))) (fun e H2 e2 => ?_) (fun e H2 e2 => ?_)
  · have k' : RetC C H a c d dx (s, [-1]) Q := by
      have q : Dr05.step s (.look t) = (s, [-1]) := by
        unfold Dr05.step
        dsimp only
        rw [if_pos]
        rw [Bool.not_eq_true'] at e
        exact e
      rw [q] at k
      exact k
    exact s_retL (el_lst (ea_cons ev_c ea_nil) (by show 1 ≤ 100000; decide)) fun p H3 hp e3 h3 => k'.asks S p H3 (fresh_back (e1.trans e2) hp) ((e1.trans e2).trans e3) h3
  · rw [Bool.not_eq_false'] at e
    have e02 := e1.trans e2
    have S2 := S.ex e02
    have hlen : (s.jobs.filter (doneB t)).length ≤ 5 := Nat.le_trans (List.length_filter_le _ _) j5
    refine q_asgL (xs := (s.jobs.filter (doneB t)).map fun (j : Job) => V.int (j.num : Int)) (el_call (ea_cons (ev_jobs T S2 (ev_var rfl)) (ea_cons (ev_var rfl) ea_nil)) fun H3 e3 Q3 q3 E3 => ⟨d, s.jobs, t, rfl, (S2.ex e3).js, wf.nd, by omega, q3⟩) fun p H3 hp e3 h3 => ?_
    have S3 := S2.ex e3
    refine q_asg (v := .int (JM.left s t)) (ev_call (ea_cons (ev_costs T S3 (ev_var rfl)) (ea_cons (ev_jobs T S3 (ev_var rfl)) (ea_cons (ev_var rfl) ea_nil))) fun H4 e4 Q4 q4 E4 => ⟨c, d, s, t, rfl, sq_of (S3.ex e4).cs, (S3.ex e4).js, wf.sz, q4⟩) fun H4 e4 => ?_
    have S4 := S3.ex e4
    have h4 := e4 _ _ h3
    have e04 := (e02.trans e3).trans e4
    refine s_retL (el_catN (el_lst (ea_cons ev_c (ea_cons (ev_var rfl) (ea_cons (ev_call (z := .int (costL s.costs t : Nat)) (ea_cons (ev_costs T S4 (ev_var rfl)) (ea_cons (ev_var rfl) ea_nil)) fun H5 e5 Q5 q5 E5 => ⟨c, s.costs, t, rfl, sq_of (S4.ex e5).cs, by omega, q5⟩)
      (ea_cons (ev_len (ev_var rfl) (sq_of h4)) ea_nil)))) (by show 4 ≤ 100000; decide)) (ev_var rfl) h4 (by simp only [List.length_cons, List.length_nil, List.length_map]; omega)) fun q H5 hq e5 h5 => k.one S ?_ q H5 (fresh_back e04 hq) (e04.trans e5) h5
    have z : Dr05.isSet s t = true := e
    rw [z, if_neg (by decide), JM.gain_eq, JM.cost_eq, JM.done_eq]
    unfold Dr05.told Dr05.ints Dr05.nums
    simp only [List.map_append, List.map_cons, List.map_map, List.map_nil, List.length_map, List.cons_append, List.nil_append]
    rfl
end
end J
/-! JTable: the calls by their tables; is_change, change, ask, answer -/
namespace J
open PySem PySem.Spec PyProof.Rows L2 Evl
open Dr05 (Shop Job)
abbrev sAnswer : Stmt := top 70
/-- a table from a call's number to its def -/
def tabOf (l : List (Nat × Addr)) : List (Int × V) := l.map fun p => ((p.1 : Int), V.ref p.2)
theorem tab_find (k : Nat) : ∀ l : List (Nat × Addr), valV (tabOf l) (k : Int) = (l.find? fun p => p.1 == k).map fun p => V.ref p.2
  | [] => rfl
  | p :: r => by
    by_cases h : p.1 = k
    · subst h
      show valV (((p.1 : Int), V.ref p.2) :: tabOf r) _ = _
      rw [valV_pos rfl, List.find?_cons, beq_self_eq_true]
      rfl
    · show valV (((p.1 : Int), V.ref p.2) :: tabOf r) _ = _
      rw [valV_neg (by intro z; have z : (p.1 : Int) = (k : Int) := z; exact h (by omega)), tab_find k r, List.find?_cons, beq_eq_false_iff_ne.mpr h]
theorem tab_mem {k : Nat} {f : Addr} {l : List (Nat × Addr)} (h : valV (tabOf l) (k : Int) = some (.ref f)) : (k, f) ∈ l := by
  rw [tab_find] at h
  obtain ⟨p, h1, h2⟩ := Option.map_eq_some_iff.mp h
  have h3 := List.mem_of_find?_eq_some h1
  have h4 : (p.1 == k) = true := List.find?_some (p := fun (p : Nat × Addr) => p.1 == k) h1
  have h4 := beq_iff_eq.mp h4
  obtain ⟨p1, p2⟩ := p
  cases h2
  cases h4
  exact h3
theorem tab_some {k : Nat} {l : List (Nat × Addr)} (h : k ∈ l.map (·.1)) : ∃ f, valV (tabOf l) (k : Int) = some (.ref f) := by
  obtain ⟨p, hp, rfl⟩ := List.mem_map.mp h
  rw [tab_find]
  have z : (l.find? fun q => q.1 == p.1).isSome = true := by
    rw [List.find?_isSome]
    exact ⟨p, hp, beq_self_eq_true _⟩
  obtain ⟨q, hq⟩ := Option.isSome_iff_exists.mp z
  exact ⟨q.2, by rw [hq]; rfl⟩
theorem tab_has (k : Nat) (l : List (Nat × Addr)) : (valV (tabOf l) (k : Int)).isSome = decide (k ∈ l.map (·.1)) := by
  by_cases h : k ∈ l.map (·.1)
  · obtain ⟨f, e⟩ := tab_some h
    rw [e, decide_eq_true h]
    rfl
  · rw [decide_eq_false h]
    cases e : valV (tabOf l) (k : Int) with
    | none => rfl
    | some v =>
      rw [tab_find] at e
      obtain ⟨p, h1, h2⟩ := Option.map_eq_some_iff.mp e
      have h4 : (p.1 == k) = true := List.find?_some (p := fun (p : Nat × Addr) => p.1 == k) h1
      have h4 := beq_iff_eq.mp h4
      exact absurd (List.mem_map.mpr ⟨p, List.mem_of_find?_eq_some h1, h4⟩) h
/-- the table at the name x, and the defs in it -/
structure TabAt (P : Program) (w : World) (K : PySem.W.Frag) (mg : Str → Option Value) (base : Heap) (C : Addr) (j : Nat) (x : Str) (d : Addr) (l : List (Nat × Addr)) : Prop where
  cst : Cst mg x (.ref d)
  tab : KTab K d (tabOf l)
  held : ∀ p ∈ l, ∃ i, i ≤ j ∧ Held P w K mg base i p.2 (spH K C p.1)
def InTab (K : PySem.W.Frag) (C : Addr) (l : List (Nat × Addr)) (f : Addr) (sp : Sp) : Prop := ∃ k, sp = spH K C k ∧ (k, f) ∈ l
def spIn (ks : List Nat) : Sp := fun vs H Q _ => ∃ k : Nat, vs = [.int (k : Int)] ∧ RetV (.bl (decide (k ∈ ks))) H Q
section
variable {P : Program} {w : World} {K : PySem.W.Frag} {mg : Str → Option Value} {base : Heap} {C : Addr}
theorem TabAt.inTab {j : Nat} {x : Str} {d : Addr} {l : List (Nat × Addr)} (t : TabAt P w K mg base C j x d l) : ∀ f sp, InTab K C l f sp → ∃ i, i ≤ j ∧ Held P w K mg base i f sp := by
  rintro f sp ⟨k, rfl, h⟩
  exact t.held _ h
theorem scIsChange : FnScope ["call"] ["call"] (defScope sIsChange) := ⟨rfl, rfl, rfl, by decide +kernel, rfl, by decide +kernel, by decide +kernel⟩
theorem ok_isChange {d : Addr} {l : List (Nat × Addr)} {j : Nat} (F : DefAt K mg "is_change" sIsChange ["call"]) (t : TabAt P w K mg base C j "CHANGES" d l) : Cal P w K mg base 1 "is_change" (spIn (l.map (·.1))) := by
  refine F.cal scIsChange (fun vs H Q E h => ?_) (fun f cdv A outer s H vs Q E hr h => ⟨_, pss_one (ps_ret (pe_cmpR op_in_tab (pv 0) (pe_gc t.cst (by rfl)) (by rfl))), ?_⟩)
  · obtain ⟨k, rfl, _⟩ := h
    rfl
  · obtain ⟨k, rfl, q⟩ := h
    refine s_ret (ev_is (ev_op (ev_var rfl) ev_c (rv_inTab t.tab)) ?_) q
    rw [tab_has]
/-- CHANGES[call](shop, numbers) and its like: what the reading asks -/
theorem by_tab {x : Str} {d a b c dd dx : Addr} {l : List (Nat × Addr)} {j : Nat} {k : Nat} {H : Hp} {s : Shop} {ns : List Nat} {cl : Dr05.Call} {Q : VK} (t : TabAt P w K mg base C j x d l) (hk : k ∈ l.map (·.1)) (S : ShopAt C H a c dd dx s) (wf : JM.WF s) (hb : SqL K H b (nums ns))
    (hcl : Dr05Neutral.callIn (k :: ns) = some cl) (q : RetC C H a c dd dx (Dr05.step s cl) Q) : tCallX (InTab K C l) (tOp (rTab K) (tC (.ref d)) (tVar 1)) (tCons (tVar 0) (tCons (tVar 2) tNil)) [some (.ref a), some (.int (k : Int)), some (.ref b)] H Q := by
  obtain ⟨f, ef⟩ := tab_some hk
  refine (ev_op (σ := [some (.ref a), some (.int (k : Int)), some (.ref b)]) (tb := tVar 1) (z := .ref f) (x := .ref d) (y := .int (k : Int)) ev_c (ev_var rfl) (rv_tab t.tab ef)) H (Ex.refl H) _ fun H1 e1 => ⟨f, spH K C k, rfl, ⟨k, rfl, tab_mem ef⟩, ?_⟩
  exact (ea_cons (σ := [some (.ref a), some (.int (k : Int)), some (.ref b)]) (x := .ref a) (ta := tVar 0) (ev_var rfl) (ea_cons (x := .ref b) (ta := tVar 2) (ev_var rfl) ea_nil)) H1 (Ex.refl H1) _ fun H2 e2 => ⟨a, b, c, dd, dx, s, ns, cl, rfl, S.ex (e1.trans e2), wf, ex_l (e1.trans e2) hb, hcl, q.mono (e1.trans e2)⟩
theorem scChange : FnScope ["shop", "call", "numbers"] ["shop", "call", "numbers"] (defScope sChange) := ⟨rfl, rfl, rfl, by decide +kernel, rfl, by decide +kernel, by decide +kernel⟩
theorem ok_change {d : Addr} {l : List (Nat × Addr)} {j : Nat} (F : DefAt K mg "change" sChange ["shop", "call", "numbers"]) (t : TabAt P w K mg base C j "CHANGES" d l) : Cal P w K mg base (j + 1) "change" (spA K C fun k => k ∈ l.map (·.1)) := by
  refine F.cal scChange (fun vs H Q E h => spA_len h) (fun f cdv A outer s H vs Q E hr h => ⟨_, pss_one (ps_ret (pe_callX t.inTab hr (pe_ix ix_tab (pe_gc t.cst (by rfl)) (pv 1) (fun _ _ => rfl)) (pa_cons (pv 0) (pa_cons (pv 2) pa_nil)))), ?_⟩)
  obtain ⟨a, b, c, dd, dx, s, k, ns, cl, rfl, hk, S, wf, hb, hcl, q⟩ := h
  exact by_tab t hk S wf hb hcl q
theorem scAsk : FnScope ["shop", "call", "numbers"] ["shop", "call", "numbers"] (defScope sAsk) := ⟨rfl, rfl, rfl, by decide +kernel, rfl, by decide +kernel, by decide +kernel⟩
theorem ok_ask {d : Addr} {l : List (Nat × Addr)} {j : Nat} (F : DefAt K mg "ask" sAsk ["shop", "call", "numbers"]) (t : TabAt P w K mg base C j "QUESTIONS" d l) : Cal P w K mg base (j + 1) "ask" (spA K C fun k => k ∈ l.map (·.1)) := by
  refine F.cal scAsk (fun vs H Q E h => spA_len h) (fun f cdv A outer s H vs Q E hr h => ⟨_, pss_one (ps_ret (pe_callX t.inTab hr (pe_ix ix_tab (pe_gc t.cst (by rfl)) (pv 1) (fun _ _ => rfl)) (pa_cons (pv 0) (pa_cons (pv 2) pa_nil)))), ?_⟩)
  obtain ⟨a, b, c, dd, dx, s, k, ns, cl, rfl, hk, S, wf, hb, hcl, q⟩ := h
  exact by_tab t hk S wf hb hcl q
theorem scAnswer : FnScope ["shop", "call", "numbers"] ["shop", "call", "numbers"] (defScope sAnswer) := ⟨rfl, rfl, rfl, by decide +kernel, rfl, by decide +kernel, by decide +kernel⟩
theorem ok_answer {l1 l2 : List Nat} {ok : Nat → Prop} {j1 j2 j : Nat} (hok : ∀ k, ok k → k ∈ l1 ∨ k ∈ l2) (h1 : j1 ≤ j) (h2 : j2 ≤ j) (h0 : 1 ≤ j) (F : DefAt K mg "answer" sAnswer ["shop", "call", "numbers"]) (cI : Cal P w K mg base 1 "is_change" (spIn l1)) (cC : Cal P w K mg base j1 "change" (spA K C fun k => k ∈ l1)) (cA : Cal P w K mg base j2 "ask" (spA K C fun k => k ∈ l2)) :
    Cal P w K mg base (j + 1) "answer" (spA K C ok) := by
  refine F.cal scAnswer (fun vs H Q E h => spA_len h) (fun f cdv A outer s H vs Q E hr h => ⟨_, pss_cons (ps_if (pt_val (pe_c cI hr h0 (by rfl) (pa_cons (pv 1) pa_nil))) (pss_one (ps_ret (pe_c cC hr h1 (by rfl) (pa_cons (pv 0) (pa_cons (pv 1) (pa_cons (pv 2) pa_nil)))))) pss_nil)
    (pss_one (ps_ret (pe_c cA hr h2 (by rfl) (pa_cons (pv 0) (pa_cons (pv 1) (pa_cons (pv 2) pa_nil)))))), ?_⟩)
  obtain ⟨a, b, c, dd, dx, s, k, ns, cl, rfl, hk, S, wf, hb, hcl, q⟩ := h
  have ea : ∀ H1, EvA (tCons (tVar 0) (tCons (tVar 1) (tCons (tVar 2) tNil))) (start ["shop", "call", "numbers"] [.ref a, .int (k : Int), .ref b]) H1 [.ref a, .int (k : Int), .ref b] := fun H1 => ea_cons (ev_var rfl) (ea_cons (ev_var rfl) (ea_cons (ev_var rfl) ea_nil))
  refine q_when (et_B (ev_call (ea_cons (ev_var rfl) ea_nil) (z := .bl (decide (k ∈ l1))) fun H1 e1 Q1 q1 E1 => ⟨k, rfl, q1⟩)) (fun e H1 e1 => ?_) (fun e H1 e1 => ?_)
  · exact s_retCall (ea H1) fun H2 e2 => ⟨a, b, c, dd, dx, s, k, ns, cl, rfl, of_decide_eq_true e, S.ex (e1.trans e2), wf, ex_l (e1.trans e2) hb, hcl, q.mono (e1.trans e2)⟩
  · exact s_retCall (ea H1) fun H2 e2 => ⟨a, b, c, dd, dx, s, k, ns, cl, rfl, (hok k hk).resolve_left (of_decide_eq_false e), S.ex (e1.trans e2), wf, ex_l (e1.trans e2) hb, hcl, q.mono (e1.trans e2)⟩
end
end J
/-! JShop: jobtools/state.py and jobtools/shop.py -/
namespace J
open PySem PySem.Spec PyProof.Rows L2 Evl
open Dr05 (Shop Job)
abbrev sInit : Stmt := inClass (top 64) 0
abbrev sFirst : Stmt := top 68
abbrev sMany : Stmt := top 69
abbrev sAnswers : Stmt := top 71
/-! ### Shop() -/
def spInit (C : Addr) : Sp := fun vs H Q _ => ∃ (p dx : Addr), vs = [.ref p] ∧ H p = some (.ins C dx []) ∧ ∀ (H' : Hp) (c d : Addr), ShopAt C H' p c d dx Dr05.init → H c = none → H d = none → (∀ b o, b ≠ p → H b = some o → H' b = some o) → Q .non H'
def fl1 (c : Addr) : List (Str × V) := [("costs", .ref c)]
def fl2 (c d : Addr) : List (Str × V) := [("costs", .ref c), ("jobs", .ref d)]
theorem pf_1 (c : Addr) : putF "costs" (.ref c) [] = fl1 c := rfl
theorem pf_2 (c d : Addr) : putF "jobs" (.ref d) (fl1 c) = fl2 c d := (put_past (by decide +kernel)).trans rfl
theorem pf_3 (c d : Addr) (n : Int) : putF "last_number" (.int n) (fl2 c d) = flds c d n := (put_past (by decide +kernel)).trans (congrArg _ ((put_past (by decide +kernel)).trans rfl))
section
variable {P : Program} {w : World} {K : PySem.W.Frag} {mg : Str → Option Value} {base : Heap} {C : Addr}
theorem scInit : FnScope ["self"] ["self"] (defScope sInit) := ⟨rfl, rfl, rfl, by decide +kernel, rfl, by decide +kernel, by decide +kernel⟩
theorem ok_init {f : Addr} {fd : FuncData} (F : Fun K "__init__" "Shop.__init__" sInit f fd) (T : Cl K C) : FnOk P w K mg base CX0 1 f fd ["self"] (spInit C) := by
  refine F.ok scInit (fun vs H Q E h => ?_) (fun cdv A outer s H vs Q E hr h => ⟨_, pss_cons (ps_fld (pv 0) (pe_lst (pa_cons pe_int pa_nil)) rfl) (pss_cons (ps_fld (pv 0) pe_dnewK rfl) (pss_one (ps_fld (pv 0) pe_int rfl))), ?_⟩)
  · obtain ⟨p, dx, rfl, _⟩ := h
    rfl
  · obtain ⟨p, dx, rfl, hp, k⟩ := h
    refine q_fldL (xs := [.int 0]) (el_lst (ea_cons ev_c ea_nil) (by show 1 ≤ 100000; decide)) (ev_var rfl) hp T.cl T.nC (by show 0 < 1000; decide) fun p1 H1 hp1 e1 h1 => ?_
    rw [pf_1]
    have n1 : p1 ≠ p := (ne_of_none hp hp1).symm
    refine q_fldD (ev_var rfl) upd_same T.cl T.nJ (by show 1 < 1000; decide) fun p2 H2 hp2 e2 h2 => ?_
    rw [pf_2]
    have n2 : p2 ≠ p := (ne_of_none upd_same hp2).symm
    refine s_fld ev_c (ev_var rfl) upd_same T.cl T.nL (by show 2 < 1000; decide) fun H3 e3 => ?_
    rw [pf_3]
    have x1 : ExA p H H1 := ExA.of e1
    have x2 : ExA p H H2 := (x1.trans ExA.put).trans (ExA.of e2)
    have x3 : ExA p H H3 := (x2.trans ExA.put).trans (ExA.of e3)
    refine k _ p1 p2 ⟨upd_same, ?_, ⟨[], ?_, .nil⟩⟩ hp1 ?_ (x3.trans ExA.put)
    · rw [upd_ne n1]
      exact e3 _ _ (by rw [upd_ne n1]; exact e2 _ _ (by rw [upd_ne n1]; exact h1))
    · rw [upd_ne n2]
      exact e3 _ _ (by rw [upd_ne n2]; exact h2)
    · cases q2 : H p2 with
      | none => rfl
      | some o =>
        rw [upd_ne n2, x1 p2 o n2 q2] at hp2
        cases hp2
/-! ### where a call's numbers begin, how many they are -/
def spFirst (K : PySem.W.Frag) : Sp := fun vs H Q _ => ∃ (b : Addr) (L : List Nat) (i x : Nat), vs = [.ref b, .int (i : Int)] ∧ SqL K H b (nums L) ∧ L[i]? = some x ∧ RetV (.int ((i + (if x = 0 then 2 else 1) : Nat) : Int)) H Q
def spMany (K : PySem.W.Frag) : Sp := fun vs H Q _ => ∃ (b : Addr) (L : List Nat) (i x n : Nat), vs = [.ref b, .int (i : Int)] ∧ SqL K H b (nums L) ∧ L[i]? = some x ∧ (x = 0 → L[i + 1]? = some n) ∧ (x ≠ 0 → JM.arity x = some n) ∧ RetV (.int (n : Int)) H Q
def numTab : List (Int × V) := [(1, .int 2), (2, .int 1), (3, .int 2), (4, .int 2), (5, .int 0), (6, .int 1), (7, .int 2), (8, .int 0), (9, .int 1), (10, .int 1), (11, .int 1), (12, .int 1), (13, .int 0)]
theorem num_tab {x n : Nat} (h : JM.arity x = some n) : valV numTab (x : Int) = some (.int (n : Int)) := by
  match x, h with
  | 1, h => cases h; rfl
  | 2, h => cases h; rfl
  | 3, h => cases h; rfl
  | 4, h => cases h; rfl
  | 5, h => cases h; rfl
  | 6, h => cases h; rfl
  | 7, h => cases h; rfl
  | 8, h => cases h; rfl
  | 9, h => cases h; rfl
  | 10, h => cases h; rfl
  | 11, h => cases h; rfl
  | 12, h => cases h; rfl
  | 13, h => cases h; rfl
theorem nums_at {L : List Nat} {i x : Nat} (h : L[i]? = some x) : (nums L)[i]? = some (.int (x : Int)) := by
  rw [List.getElem?_map, h]
  rfl
theorem scFirst : FnScope ["calls", "place"] ["calls", "place"] (defScope sFirst) := ⟨rfl, rfl, rfl, by decide +kernel, rfl, by decide +kernel, by decide +kernel⟩
theorem ok_first (F : DefAt K mg "first_number" sFirst ["calls", "place"]) (gT : Cst mg "TOOLS" (.int 0)) : Cal P w K mg base 1 "first_number" (spFirst K) := by
  refine F.cal scFirst (fun vs H Q E h => ?_) (fun f cdv A outer s H vs Q E hr h => ⟨_, pss_one (ps_ret (pe_ifExp (pt_cmpR op_eq (pe_ix ix_list (pv 0) (pv 1) (fun _ _ => rfl)) (pe_gc gT (by rfl)) (nomark _)) (pe_op op_add (pv 1) pe_int) (pe_op op_add (pv 1) pe_int))), ?_⟩)
  · obtain ⟨b, L, i, x, rfl, _⟩ := h
    rfl
  · obtain ⟨b, L, i, x, rfl, hb, hx, k⟩ := h
    refine s_ret (ev_if (b := x == 0) (et_is (et_test (ev_op (ev_op (ev_var rfl) (ev_var rfl) (rv_ixL hb (atI_nat (nums_at hx)))) ev_c (rv_eq rfl))) (dec_nat x 0)) (fun e => ev_is (ev_op (ev_var rfl) ev_c rv_I0) ?_) (fun e => ev_is (ev_op (ev_var rfl) ev_c rv_I0) ?_)) k
    · rw [if_pos (beq_iff_eq.mp e)]
      rfl
    · rw [if_neg (beq_eq_false_iff_ne.mp e)]
      rfl
theorem scMany : FnScope ["calls", "place"] ["calls", "place"] (defScope sMany) := ⟨rfl, rfl, rfl, by decide +kernel, rfl, by decide +kernel, by decide +kernel⟩
theorem ok_many {d : Addr} (F : DefAt K mg "how_many_numbers" sMany ["calls", "place"]) (gT : Cst mg "TOOLS" (.int 0)) (gN : Cst mg "NUMBERS" (.ref d)) (tN : KTab K d numTab) : Cal P w K mg base 1 "how_many_numbers" (spMany K) := by
  refine F.cal scMany (fun vs H Q E h => ?_) (fun f cdv A outer s H vs Q E hr h => ⟨_, pss_one (ps_ret (pe_ifExp (pt_cmpR op_eq (pe_ix ix_list (pv 0) (pv 1) (fun _ _ => rfl)) (pe_gc gT (by rfl)) (nomark _)) (pe_ix ix_list (pv 0) (pe_op op_add (pv 1) pe_int) (fun _ _ => rfl))
    (pe_ix ix_tab (pe_gc gN (by rfl)) (pe_ix ix_list (pv 0) (pv 1) (fun _ _ => rfl)) (fun _ _ => rfl)))), ?_⟩)
  · obtain ⟨b, L, i, x, n, rfl, _⟩ := h
    rfl
  · obtain ⟨b, L, i, x, n, rfl, hb, hx, h0, h1, k⟩ := h
    refine s_ret (ev_if (b := x == 0) (et_is (et_test (ev_op (ev_op (ev_var rfl) (ev_var rfl) (rv_ixL hb (atI_nat (nums_at hx)))) ev_c (rv_eq rfl))) (dec_nat x 0)) (fun e => ?_) (fun e => ?_)) k
    · exact ev_op (ev_var rfl) (ev_op (ev_var rfl) ev_c rv_I0) (rv_ixL hb (at_of (j := i + 1) (by omega) (nums_at (h0 (beq_iff_eq.mp e)))))
    · exact ev_op ev_c (ev_op (ev_var rfl) (ev_var rfl) (rv_ixL hb (atI_nat (nums_at hx)))) (rv_tab tN (num_tab (h1 (beq_eq_false_iff_ne.mp e))))
end
end J
/-! JAnswers: the loop over the calls -/
namespace J
open PySem PySem.Spec PyProof.Rows L2 Evl
open Dr05 (Shop Job)
/-- a list that is handed in: locked, or of the written part -/
def FzL (K : PySem.W.Frag) (H : Hp) (b : Addr) (xs : List V) : Prop := (∃ o, H b = some (.frz o (.lst xs))) ∨ SqL K (fun _ => none) b xs
theorem FzL.sq {K : PySem.W.Frag} {H : Hp} {b : Addr} {xs : List V} (h : FzL K H b xs) : SqL K H b xs := by
  rcases h with ⟨o, h⟩ | (h | ⟨o, h⟩) | h
  · exact .inl (.inr ⟨o, h⟩)
  · cases h
  · cases h
  · exact .inr h
theorem FzL.keep {K : PySem.W.Frag} {H H' : Hp} {b : Addr} {xs : List V} (h : FzL K H b xs) (e : ∀ o u, H b = some (.frz o u) → H' b = some (.frz o u)) : FzL K H' b xs := by
  rcases h with ⟨o, h⟩ | h
  · exact .inl ⟨o, e _ _ h⟩
  · exact .inr h
theorem FzL.ex {K : PySem.W.Frag} {H H' : Hp} {b : Addr} {xs : List V} (h : FzL K H b xs) (e : Ex H H') : FzL K H' b xs := h.keep fun o u q => e _ _ q
/-- three arguments, the last a new list -/
theorem ea3L {σ : L2.St} {H : Hp} {t1 t2 t3 : TE} {x y : V} {xs : List V} {R : List V → Hp → Prop} (h1 : Ev t1 σ H x) (h2 : Ev t2 σ H y) (h3 : EvL t3 σ H xs) (k : ∀ p H1, H p = none → Ex H H1 → H1 p = some (.lst xs) → R [x, y, .ref p] H1) :
    tCons t1 (tCons t2 (tCons t3 tNil)) σ H R := h1 H (Ex.refl H) _ fun H1 e1 => h2 H1 e1 _ fun H2 e2 => h3 H2 (e1.trans e2) _ fun p H3 hp e3 hl => k p H3 (fresh_back (e1.trans e2) hp) ((e1.trans e2).trans e3) hl
theorem q_asg3L {σ : L2.St} {H : Hp} {t1 t2 t3 : TE} {x y : V} {xs : List V} {sp : Sp} {E : XK} {D : Ends} {tz : TS} {i : Nat} (h1 : Ev t1 σ H x) (h2 : Ev t2 σ H y) (h3 : EvL t3 σ H xs)
    (k : ∀ p H1, H p = none → Ex H H1 → H1 p = some (.lst xs) → sp [x, y, .ref p] H1 (fun v H2 => tz D (σ.set i (some v)) H2) E) : tSeq (tAsg (tCall sp [] E (tCons t1 (tCons t2 (tCons t3 tNil)))) (gName i)) tz D σ H :=
  ea3L (R := fun vs H1 => sp (vs ++ []) H1 (fun v H2 => tz D (σ.set i (some v)) H2) E) h1 h2 h3 k
theorem q_extN {K : PySem.W.Frag} {σ : L2.St} {H : Hp} {ta te : TE} {D : Ends} {tz : TS} {l p : Addr} {xs ys : List V} (hl : H l = some (.lst xs)) (hp : H p = some (.lst ys)) (ha : Ev ta σ H (.ref l)) (h : Ev te σ H (.ref p)) (hz : xs.length + ys.length ≤ sizeLine)
    (k : ∀ H1, Ex H H1 → tz D σ (upd H1 l (.lst (xs ++ ys)))) : tSeq (tDrop (tBM K "list" rExtend ta (tCons te tNil))) tz D σ H := ha H (Ex.refl H) _ fun H1 e1 =>
  ⟨Or.inl ⟨rfl, xs, sq_of (e1 l _ hl)⟩, h H1 e1 _ fun H2 e2 => ⟨l, p, xs, ys, rfl, rfl, e2 l _ (e1 l _ hl), (e1.trans e2) _ _ hp, hz, k H2 (e1.trans e2)⟩⟩
theorem q_appB {K : PySem.W.Frag} {σ : L2.St} {H : Hp} {ta te : TE} {v : V} {D : Ends} {tz : TS} {l : Addr} {xs : List V} (hl : H l = some (.lst xs)) (ha : Ev ta σ H (.ref l)) (h : Ev te σ H v) (hz : xs.length < sizeLine) (k : ∀ H1, Ex H H1 → tz D σ (upd H1 l (.lst (xs ++ [v])))) :
    tSeq (tDrop (tBM K "list" rAppend ta (tCons te tNil))) tz D σ H := ha H (Ex.refl H) _ fun H1 e1 =>
  ⟨Or.inl ⟨rfl, xs, sq_of (e1 l _ hl)⟩, h H1 e1 _ fun H2 e2 => ⟨l, xs, v, rfl, rfl, e2 l _ (e1 l _ hl), hz, k H2 (e1.trans e2)⟩⟩
theorem cut_nums (L : List Nat) (i n : Nat) (h : i + n ≤ L.length) : cutV (nums L) (some (i : Int)) (some ((i + n : Nat) : Int)) = nums ((L.drop i).take n) := by
  unfold cutV
  rw [HT.sIx_nat, HT.sIx_nat, List.length_map, Nat.min_eq_left (show i ≤ L.length by omega), Nat.min_eq_left h, show i + n - i = n by omega]
  show ((L.map fun (n : Nat) => V.int (n : Int)).drop i).take n = ((L.drop i).take n).map fun (n : Nat) => V.int (n : Int)
  rw [List.map_take, List.map_drop]
theorem ShopAt.putL {C a c d dx tl : Addr} {s : Shop} {H : Hp} {xs ys : List V} (h : ShopAt C H a c d dx s) (hl : H tl = some (.lst xs)) (n : tl ≠ c) : ShopAt C (upd H tl (.lst ys)) a c d dx s := by
  obtain ⟨kvs, hd, pr⟩ := h.js
  refine ⟨?_, ?_, ⟨kvs, ?_, jobs_ex (fun b zs hb => ?_) pr⟩⟩
  · rw [upd_ne (ne_of h.ins hl (by intro z; cases z))]
    exact h.ins
  · rw [upd_ne n.symm]
    exact h.cs
  · rw [upd_ne (ne_of hd hl (by intro z; cases z))]
    exact hd
  · rw [upd_ne (ne_of hb hl (by intro z; cases z))]
    exact hb
theorem FzL.putL {K : PySem.W.Frag} {H : Hp} {b tl : Addr} {xs zs ys : List V} (h : FzL K H b xs) (hl : H tl = some (.lst zs)) : FzL K (upd H tl (.lst ys)) b xs := h.keep fun o u q => by
  rw [upd_ne (ne_of q hl (by intro z; cases z))]
  exact q
theorem arity_le {x n : Nat} (h : JM.arity x = some n) : x ≤ 13 := by
  match x, h with
  | 0, h => omega
  | 1, h => omega
  | 2, h => omega
  | 3, h => omega
  | 4, h => omega
  | 5, h => omega
  | 6, h => omega
  | 7, h => omega
  | 8, h => omega
  | 9, h => omega
  | 10, h => omega
  | 11, h => omega
  | 12, h => omega
  | 13, h => omega
  | x + 14, h => cases h
def spAns (K : PySem.W.Frag) : Sp := fun vs H Q _ => ∃ (b : Addr) (L : List Nat), vs = [.ref b] ∧ FzL K H b (nums L) ∧ PyDr05.answers_asked (JM.I L) = true ∧
  ∀ (H' : Hp) (p : Addr), H' p = some (.lst ((PyDr05.answers (JM.I L)).map V.int)) → Q (.ref p) H'
/-- between two calls -/
structure Mid (K : PySem.W.Frag) (C : Addr) (L : List Nat) (b a tl : Addr) (place : Nat) (H : Hp) : Prop where
  ex : ∃ (s : Shop) (out : List Int) (raw : List (List (List Int))) (f : Nat) (c d dx : Addr), place ≤ L.length ∧ PyFlat.calls PyDr05.shape f (JM.I (L.drop place)) = some raw ∧ (∀ h ∈ JM.heads raw, Dr05Neutral.asked1 h = true) ∧
    PyDr05.answers (JM.I L) = out ++ JM.rem s (JM.heads raw) ∧ JM.WF s ∧ ShopAt C H a c d dx s ∧ H tl = some (.lst (out.map V.int)) ∧ tl ≠ c ∧ FzL K H b (nums L)
section
variable {P : Program} {w : World} {K : PySem.W.Frag} {mg : Str → Option Value} {base : Heap} {C : Addr}
theorem scAnswers : FnScope ["calls", "shop", "told", "place", "first", "end", "told_now"] ["calls"] (defScope sAnswers) := ⟨rfl, rfl, rfl, by decide +kernel, rfl, by decide +kernel, by decide +kernel⟩
theorem ok_answers {j : Nat} {f fI : Addr} {fd fdI : FuncData} (F : Fun K "answers" "answers" sAnswers f fd) (B : Blt mg) (T : Cl K C) (M : Mk K C fI) (gC : mg "Shop" = some (.ref C)) (FI : FnOk P w K mg base CX0 1 fI fdI ["self"] (spInit C)) (bI : Binds K fdI ["self"] [])
    (cF : Cal P w K mg base 1 "first_number" (spFirst K)) (cM : Cal P w K mg base 1 "how_many_numbers" (spMany K)) (cA : Cal P w K mg base j "answer" (spA K C fun k => k ≤ 13)) (hj : 2 ≤ j) : FnOk P w K mg base CX0 (j + 1) f fd ["calls"] (spAns K) := by
  refine F.ok scAnswers (fun vs H Q E h => ?_) (fun cdv A outer s H vs Q E hr h => ⟨_, pss_cons (ps_set (i := 1) scAnswers.nd rfl (Or.inl rfl) (pe_make0 M FI (hr.mono hj) (by rfl) gC bI .nil pass0))
    (pss_cons (ps_set (i := 2) scAnswers.nd rfl (Or.inl rfl) (pe_lst pa_nil))
    (pss_cons (ps_set (i := 3) scAnswers.nd rfl (Or.inl rfl) pe_int)
    (pss_cons (ps_while PassesOwn.never (pt_cmpR op_lt (pv 3) (pe_callB call_len_seq (by rfl) B.len PySem.boot_len (pa_cons (pv 0) pa_nil)) (nomark _))
      (pss_cons (ps_set (i := 4) scAnswers.nd rfl (Or.inl rfl) (pe_c cF hr (by omega) (by rfl) (pa_cons (pv 0) (pa_cons (pv 3) pa_nil))))
      (pss_cons (ps_set (i := 5) scAnswers.nd rfl (Or.inl rfl) (pe_op op_add (pv 4) (pe_c cM hr (by omega) (by rfl) (pa_cons (pv 0) (pa_cons (pv 3) pa_nil)))))
      (pss_cons (ps_set (i := 6) scAnswers.nd rfl (Or.inl rfl) (pe_c cA hr (by omega) (by rfl) (pa_cons (pv 1) (pa_cons (pe_ix ix_list (pv 0) (pv 3) (fun _ _ => rfl)) (pa_cons (pe_slice sl_list (pv 0) (po_some (pv 4)) (po_some (pv 5))) pa_nil)))))
      (pss_cons (ps_expr (pe_bm PySem.F.plainAttrs_list PySem.F.slot_list_append PySem.F.type_list_append mt_append (pv 2) (pa_cons (pe_callB call_len_seq (by rfl) B.len PySem.boot_len (pa_cons (pv 6) pa_nil)) pa_nil)))
      (pss_cons (ps_expr (pe_bm PySem.F.plainAttrs_list PySem.F.slot_list_extend PySem.F.type_list_extend mt_extend (pv 2) (pa_cons (pv 6) pa_nil)))
      (pss_one (ps_set (i := 3) scAnswers.nd rfl (Or.inl rfl) (pv 5)))))))))
    (pss_one (ps_ret (pv 2)))))), ?_⟩)
  · obtain ⟨b, L, rfl, _⟩ := h
    rfl
  · obtain ⟨b, L, rfl, hb, hask, k⟩ := h
    obtain ⟨raw0, hraw0, hasked, hans⟩ := JM.asked_is hask
    have hlenA : (PyDr05.answers (JM.I L)).length ≤ 1000040 := by
      rw [hans]
      exact JM.asked_len hasked
    intro a dx na nd ne
    refine ⟨a, dx, rfl, upd_same, fun H1 c d S1 hc hd fr => ⟨rfl, ?_⟩⟩
    have e1 : Ex H H1 := fun b' o h' => fr b' o (ne_of_none h' na) (by rw [upd_ne (ne_of_none h' na), upd_ne (ne_of_none h' nd)]; exact h')
    refine q_asgL (xs := []) (el_lst ea_nil (by show 0 ≤ 100000; decide)) fun tl H2 htl e2 h2 => ?_
    refine q_asg ev_c fun H3 e3 => ?_
    refine q_while (fun m σ' H' => ∃ (place : Nat) (u4 u5 u6 : Option V), σ' = [some (.ref b), some (.ref a), some (.ref tl), some (.int (place : Int)), u4, u5, u6] ∧ m = L.length - place ∧ Mid K C L b a tl place H') L.length
      ⟨0, none, none, none, rfl, rfl, ⟨Dr05.init, [], raw0, _, c, d, dx, Nat.zero_le _, (by rw [JM.I_len] at hraw0; exact hraw0), JM.asked_all hasked, hans, JM.wf_init, S1.ex (e2.trans e3), e3 _ _ h2, (ne_of_none S1.cs htl).symm, hb.ex ((e1.trans e2).trans e3)⟩⟩ ?_
    rintro m σ' H' ⟨place, u4, u5, u6, rfl, rfl, ⟨s, out, raw, f0, c', d', dx', hpl, hraw, hall, hout, wf, S, hL, ntc, hB⟩⟩
    refine ⟨decide (place < L.length), et_is (et_test (ev_op (ev_var rfl) (ev_len (ev_var rfl) hB.sq) rv_I0)) (by rw [List.length_map]; exact dec_gt L.length place), fun hlt H4 e4 => ?_, fun hge H4 e4 => ?_⟩
    · have hlt := of_decide_eq_true hlt
      obtain ⟨x, r, hdr⟩ : ∃ x r, L.drop place = x :: r := ⟨L[place], L.drop (place + 1), List.drop_eq_getElem_cons hlt⟩
      have hx : L[place]? = some x := by
        rw [← List.head?_drop, hdr]
        rfl
      rw [hdr] at hraw
      obtain ⟨f1, n, c0, raw', rfl, hhead, hraw', hfit, h0, h1⟩ := JM.calls_step hraw
      rw [← hdr] at hhead hraw' hfit
      have hfit : place + ((if x = 0 then 2 else 1) + n) ≤ L.length := by
        rw [List.length_drop] at hfit
        omega
      have hr0 : x = 0 → L[place + 1]? = some n := fun z => by
        rw [← h0 z, ← List.head?_drop, List.head?_eq_getElem?]
        have e : L.drop (place + 1) = r := by
          rw [← List.drop_drop, hdr]
          rfl
        rw [e]
      generalize hfi : (if x = 0 then 2 else 1) = fi at hhead hraw' hfit
      rw [List.drop_drop] at hhead hraw'
      have S4 := S.ex e4
      have hB4 := hB.ex e4
      have hh : JM.heads (c0 :: raw') = JM.I (x :: ((L.drop (place + fi)).take n)) :: JM.heads raw' := by
        show (PyDr05.whole c0).headD [] :: JM.heads raw' = _
        rw [hhead]
      rw [hh] at hall hout
      obtain ⟨cl, hcl, hstep⟩ := JM.step_of s (hall _ List.mem_cons_self)
      rw [JM.rem_cons, hstep] at hout
      refine ⟨fun σ2 H2 => ∃ m', m' < L.length - place ∧ ∃ (place' : Nat) (u4 u5 u6 : Option V), σ2 = [some (.ref b), some (.ref a), some (.ref tl), some (.int (place' : Int)), u4, u5, u6] ∧ m' = L.length - place' ∧ Mid K C L b a tl place' H2, fun σ2 H2 h => h, ?_⟩
      refine q_asg (v := .int ((place + fi : Nat) : Int)) (ev_call (ea_cons (ev_var rfl) (ea_cons (ev_var rfl) ea_nil)) fun H5 e5 Q5 q5 E5 => ⟨b, L, place, x, rfl, (hB4.ex e5).sq, hx, by rw [hfi]; exact q5⟩) fun H5 e5 => ?_
      have hB5 := hB4.ex e5
      refine q_asg (v := .int ((place + fi + n : Nat) : Int)) (ev_op (ev_var rfl) (ev_call (z := .int (n : Int)) (ea_cons (ev_var rfl) (ea_cons (ev_var rfl) ea_nil)) fun H6 e6 Q6 q6 E6 => ⟨b, L, place, x, n, rfl, (hB5.ex e6).sq, hx, hr0, h1, q6⟩) (by
        have z := @rv_I0 H5 (fun i j => V.int (i + j)) ((place + fi : Nat) : Int) (n : Int)
        exact z)) fun H6 e6 => ?_
      have e46 := e5.trans e6
      have S6 := S4.ex e46
      have hB6 := hB4.ex e46
      have hL6 := e46 _ _ (e4 _ _ hL)
      refine q_asg3L (ev_var rfl) (ev_op (ev_var rfl) (ev_var rfl) (rv_ixL hB6.sq (atI_nat (nums_at hx)))) (el_sl (ev_var rfl) (eo_some (ev_var rfl)) (eo_some (ev_var rfl)) hB6.sq) fun p H7 hp e7 h7 => ?_
      rw [cut_nums L (place + fi) n (by omega)] at h7
      have S7 := S6.ex e7
      refine ⟨a, p, c', d', dx', s, x, (L.drop (place + fi)).take n, cl, rfl, ?_, S7, wf, sq_of h7, hcl, fun H8 q c2 d2 S8 hc2 hd2 hq h8 fr8 => ?_⟩
      · by_cases hx0 : x = 0
        · omega
        · exact arity_le (h1 hx0)
      · have hL7 := e7 _ _ hL6
        obtain ⟨kvs7, hd7, _⟩ := S7.js
        have ta : tl ≠ a := ne_of hL7 S7.ins (by intro z; cases z)
        have td : tl ≠ d' := ne_of hL7 hd7 (by intro z; cases z)
        have hL8 := fr8 _ _ ta ntc td hL7
        have tc2 : tl ≠ c2 := by
          rcases hc2 with z | z
          · rw [z]
            exact ntc
          · exact ne_of_none hL7 z
        have tq : tl ≠ q := ne_of_none hL7 hq
        have hB8 : FzL K H8 b (nums L) := (hB6.ex e7).keep fun o u h => fr8 _ _ (ne_of h S7.ins (by intro z; cases z)) (ne_of h S7.cs (by intro z; cases z)) (ne_of h hd7 (by intro z; cases z)) h
        have hlen2 : out.length + ((Dr05.step s cl).2.length + 1) ≤ 1000040 := by
          rw [hout, List.length_append, List.length_append, List.length_cons] at hlenA
          omega
        have szl : sizeLine = 16777216 := rfl
        refine q_appB hL8 (ev_var rfl) (ev_is (ev_len (ev_var rfl) (sq_of h8)) (by rw [List.length_map])) (by rw [List.length_map, szl]; omega) fun H9 e9 => ?_
        have hL9 := e9 _ _ hL8
        have h9 : upd H9 tl (.lst (out.map V.int ++ [V.int ((Dr05.step s cl).2.length : Int)])) q = some (.lst ((Dr05.step s cl).2.map V.int)) := by
          rw [upd_ne tq.symm]
          exact e9 _ _ h8
        refine q_extN upd_same h9 (ev_var rfl) (ev_var rfl) (by rw [List.length_append, List.length_map, List.length_map, szl]; show out.length + 1 + (Dr05.step s cl).2.length ≤ 16777216; omega) fun H10 e10 => ?_
        refine s_asg (ev_var rfl) fun H11 e11 => ⟨L.length - (place + fi + n), by rw [← hfi]; split <;> omega, place + fi + n, _, _, _, rfl, rfl, ⟨(Dr05.step s cl).1, out ++ (((Dr05.step s cl).2.length : Int) :: (Dr05.step s cl).2), raw', f1, c2, d2, dx', by omega, ?_, fun h hm => hall h (List.mem_cons_of_mem _ hm), ?_, JM.wf_step wf cl, ?_, ?_, tc2, ?_⟩⟩
        · rw [show place + fi + n = place + (fi + n) by omega]
          exact hraw'
        · rw [hout, List.append_assoc]
        · exact ((((S8.ex e9).putL hL9 tc2).ex e10).putL (e10 _ _ upd_same) tc2).ex e11
        · rw [e11 _ _ upd_same, List.map_append, List.map_cons, List.append_assoc]
          rfl
        · exact ((((hB8.ex e9).putL hL9).ex e10).putL (e10 _ _ upd_same)).ex e11
    · have hge := of_decide_eq_false hge
      have e : place = L.length := by omega
      subst e
      rw [List.drop_length] at hraw
      have er : raw = [] := by
        cases f0 <;> exact (Option.some.inj hraw).symm
      subst er
      refine s_ret (ev_var rfl) fun H5 e5 => k H5 tl ?_
      rw [hout]
      show H5 tl = some (.lst ((out ++ []).map V.int))
      rw [List.append_nil]
      exact e5 _ _ (e4 _ _ hL)
end
end J
/-! JReq: what is handed in -/
namespace J
open PySem PySem.Spec PyProof.Rows L2 Evl
open PySem.W (Codec)
theorem nat_list {l : List Int} (h : ∀ x ∈ l, 0 ≤ x) : ∃ L : List Nat, l = JM.I L := by
  refine ⟨l.map Int.toNat, ?_⟩
  unfold JM.I
  rw [List.map_map]
  have e : ∀ x ∈ l, ((fun (n : Nat) => (n : Int)) ∘ Int.toNat) x = x := fun x hx => Int.toNat_of_nonneg (h x hx)
  rw [List.map_congr_left e, List.map_id'']
  intro x
  rfl
theorem fz_of {K : PySem.W.Frag} {H : Hp} {b : Addr} {xs : List V} (hO : OnlyF H) (h : SqL K H b xs) : FzL K H b xs := by
  rcases h with (h | ⟨o, h⟩) | h
  · rcases hO b with z | ⟨o, u, z⟩
    · rw [h] at z
      cases z
    · rw [h] at z
      cases z
  · exact .inl ⟨o, h⟩
  · exact .inr (.inr h)
theorem the_request (K : PySem.W.Frag) (H : Hp) (xs : List V) (l : List Int) (hO : OnlyF H) (hwi : ((Codec.inLen 0 500 l && l.all (Codec.inInt 0 4294967295)) && true) = true) (hask : PyDr05.answers_asked l = true)
    (hx : DwAll K H xs [(Codec.list 0 500 (.int 0 4294967295)).enc l]) : spAns K xs H (fun v H' => Dw K H' v ((Codec.list 0 1048576 (.int (-9223372036854775808) 18446744073709551615)).enc (PyDr05.answers l))) fun _ _ _ => False := by
  cases hx with
  | cons h1 h2 =>
    cases h2
    cases h1 with
    | lst hs ha =>
      have e := L2.ints_dw l _ ha
      subst e
      rw [Bool.and_eq_true, Bool.and_eq_true] at hwi
      have hnn : ∀ x ∈ l, 0 ≤ x := fun x hx => by
        have z := List.all_eq_true.mp hwi.1.2 x hx
        unfold Codec.inInt at z
        rw [Bool.and_eq_true] at z
        exact of_decide_eq_true z.1
      obtain ⟨L, rfl⟩ := nat_list hnn
      refine ⟨_, L, rfl, fz_of hO ?_, hask, fun H' p hp => .lst (L2.SqL.of hp) (L2.dw_ints _)⟩
      have e : (JM.I L).map V.int = nums L := by
        unfold JM.I
        rw [List.map_map]
        rfl
      rw [← e]
      exact hs
end J
/-! JLoops: what gives one of several things; a for over a dict's keys -/
namespace J
open PySem PySem.Spec PyProof.Rows L2 Evl
open Dr05 (Shop Job)
/-- an expression that gives some v with R v, all that stood stands -/
def EvP (te : TE) (σ : L2.St) (H : Hp) (R : V → Hp → Prop) : Prop := ∀ H1, Ex H H1 → ∀ Q : VK, (∀ v H2, Ex H1 H2 → R v H2 → Q v H2) → te σ H1 Q
def EvPA (ta : TA) (σ : L2.St) (H : Hp) (R : List V → Hp → Prop) : Prop := ∀ H1, Ex H H1 → ∀ Q : List V → Hp → Prop, (∀ vs H2, Ex H1 H2 → R vs H2 → Q vs H2) → ta σ H1 Q
def Stb (R : V → Hp → Prop) : Prop := ∀ v H1 H2, Ex H1 H2 → R v H1 → R v H2
section
variable {K : PySem.W.Frag} {σ : L2.St} {H H' : Hp} {ta tb te tv td ty : TE} {t u : TT} {tu tz : TS} {x y z v : V} {D : Ends}
theorem ep_v (h : Ev te σ H v) : EvP te σ H (fun x _ => x = v) := fun H1 e Q q => h H1 e _ fun H2 e2 => q v H2 e2 rfl
theorem ep_l {xs : List V} (h : EvL te σ H xs) : EvP te σ H (fun x H' => ∃ p, x = .ref p ∧ H' p = some (.lst xs)) := fun H1 e Q q => h H1 e _ fun p H2 _ e2 hp => q (.ref p) H2 e2 ⟨p, rfl, hp⟩
theorem ep_u {xs : List V} (h : EvU te σ H xs) : EvP te σ H (fun x H' => ∃ p, x = .ref p ∧ H' p = some (.tup xs)) := fun H1 e Q q => h H1 e _ fun p H2 _ e2 hp => q (.ref p) H2 e2 ⟨p, rfl, hp⟩
theorem stb_eq : Stb (fun x _ => x = v) := fun _ _ _ _ h => h
theorem stb_at {o : HO} : Stb (fun x H' => ∃ p, x = V.ref p ∧ H' p = some o) := fun _ _ _ e ⟨p, h1, h2⟩ => ⟨p, h1, e _ _ h2⟩
theorem epa_nil : EvPA tNil σ H (fun vs _ => vs = []) := fun H1 e Q q => q [] H1 (Ex.refl _) rfl
theorem epa_cons {R1 : V → Hp → Prop} {R2 : List V → Hp → Prop} {tr : TA} (s : Stb R1) (h1 : EvP te σ H R1) (h2 : EvPA tr σ H R2) : EvPA (tCons te tr) σ H (fun vs H' => ∃ v vs', vs = v :: vs' ∧ R1 v H' ∧ R2 vs' H') := fun H1 e Q q =>
  h1 H1 e _ fun v H2 e2 r1 => h2 H2 (e.trans e2) _ fun vs H3 e3 r2 => q (v :: vs) H3 (e2.trans e3) ⟨v, vs, rfl, s _ _ _ e3 r1, r2⟩
theorem ep_call {sp : Sp} {E : XK} {ta : TA} {RA : List V → Hp → Prop} {R : V → Hp → Prop} (h : EvPA ta σ H RA) (hs : ∀ vs H1, Ex H H1 → RA vs H1 → ∀ Q : VK, (∀ v H2, Ex H1 H2 → R v H2 → Q v H2) → sp vs H1 Q E) : EvP (tCall sp [] E ta) σ H R := fun H1 e Q q =>
  h H1 e _ fun vs H2 e2 r => by
    show sp (vs ++ []) H2 Q E
    rw [List.append_nil]
    exact hs vs H2 (e.trans e2) r Q fun v H3 e3 r3 => q v H3 (e2.trans e3) r3
theorem ep_tup {ta : TA} {RA : List V → Hp → Prop} (h : EvPA ta σ H RA) (hn : ∀ vs H1, RA vs H1 → vs.length ≤ 100000) (s : ∀ vs H1 H2, Ex H1 H2 → RA vs H1 → RA vs H2) : EvP (tTup ta) σ H (fun x H' => ∃ p vs, x = .ref p ∧ H' p = some (.tup vs) ∧ RA vs H') := fun H1 e Q q =>
  h H1 e _ fun vs H2 e2 r => ⟨sz_of (hn vs H2 r), fun p hp => q (.ref p) _ (e2.trans (Ex.new hp)) ⟨p, vs, rfl, upd_same, s _ _ _ (Ex.new hp) r⟩⟩
theorem ep_mono {R R' : V → Hp → Prop} (h : EvP te σ H R) (m : ∀ v H1, Ex H H1 → R v H1 → R' v H1) : EvP te σ H R' := fun H1 e Q q => h H1 e _ fun v H2 e2 r => q v H2 e2 (m v H2 (e.trans e2) r)
theorem ep_ev {R : V → Hp → Prop} (h : EvP te σ H R) (m : ∀ x H1, R x H1 → x = v) : Ev te σ H v := fun H1 e Q q => h H1 e _ fun x H2 e2 r => by
  rw [m x H2 r]
  exact q H2 e2
theorem q_asgP {i : Nat} {R : V → Hp → Prop} (h : EvP te σ H R) (k : ∀ v H1, Ex H H1 → R v H1 → tz D (σ.set i (some v)) H1) : tSeq (tAsg te (gName i)) tz D σ H := h H (Ex.refl H) _ fun v H1 e r => k v H1 e r
theorem s_asgP {i : Nat} {R : V → Hp → Prop} (h : EvP te σ H R) (k : ∀ v H1, Ex H H1 → R v H1 → D.nx (σ.set i (some v)) H1) : tAsg te (gName i) D σ H := h H (Ex.refl H) _ fun v H1 e r => k v H1 e r
theorem s_retP {R : V → Hp → Prop} (h : EvP te σ H R) (k : ∀ v H1, Ex H H1 → R v H1 → D.rt v H1) : tRet te D σ H := h H (Ex.refl H) _ k
/-- x = [(..)] -/
theorem q_asgLU {i : Nat} {xs : List V} (h : EvU te σ H xs) (k : ∀ t0 p H1, H p = none → Ex H H1 → H1 t0 = some (.tup xs) → H1 p = some (.lst [.ref t0]) → tz D (σ.set i (some (.ref p))) H1) : tSeq (tAsg (tLst (tCons te tNil)) (gName i)) tz D σ H :=
  h H (Ex.refl H) _ fun t0 H1 ht0 e1 h1 => ⟨by show 1 ≤ sizeLine; decide, fun p hp => k t0 p _ (fresh_back e1 hp) (e1.trans (Ex.new hp)) (by rw [upd_ne (ne_of_none h1 hp)]; exact h1) upd_same⟩
/-- d[k] = (.., ..) at the end -/
theorem s_dputU {d : Addr} {kvs : List (Key × V)} {k : Key} {xs : List V} (hv : EvU tv σ H xs) (hd : Ev td σ H (.ref d)) (hk : Ev ty σ H (kV k)) (ho : H d = some (.dK kvs)) (hl : kvs.length < 100000)
    (q : ∀ p H1, H p = none → Ex H H1 → H1 p = some (.tup xs) → D.nx σ (upd H1 d (.dK (putK kvs k (.ref p))))) : sDPut td ty tv D σ H :=
  hv H (Ex.refl H) _ fun p H1 hp e1 h1 => hd H1 e1 _ fun H2 e2 => hk H2 (e1.trans e2) _ fun H3 e3 => ⟨d, _, rfl, DPut.k (k := k) (((e1.trans e2).trans e3) _ _ ho) (sz_lt hl), q p H3 hp ((e1.trans e2).trans e3) ((e2.trans e3) _ _ h1)⟩
theorem s_dput {d : Addr} {kvs : List (Key × V)} {k : Key} (hv : Ev tv σ H v) (hd : Ev td σ H (.ref d)) (hk : Ev ty σ H (kV k)) (ho : H d = some (.dK kvs)) (hl : kvs.length < 100000)
    (q : ∀ H1, Ex H H1 → D.nx σ (upd H1 d (.dK (putK kvs k v)))) : sDPut td ty tv D σ H :=
  hv H (Ex.refl H) _ fun H1 e1 => hd H1 e1 _ fun H2 e2 => hk H2 (e1.trans e2) _ fun H3 e3 => ⟨d, _, rfl, DPut.k (k := k) (((e1.trans e2).trans e3) _ _ ho) (sz_lt hl), q H3 ((e1.trans e2).trans e3)⟩
/-- for k in d, the dict locked meanwhile -/
theorem q_forK {d : Addr} {kvs : List (Key × V)} {j : Nat} (hd : H d = some (.dK kvs)) (h : ∀ od, Ev td σ (upd H d (.frz od (.dK kvs))) (.ref d)) (Pv : Obj → Nat → L2.St → Hp → Prop)
    (h0 : ∀ od H1, Ex (upd H d (.frz od (.dK kvs))) H1 → Pv od 0 σ H1) (hl : ∀ od i σ' H', i ≤ kvs.length → Pv od i σ' H' → H' d = some (.frz od (.dK kvs)))
    (hs : ∀ od i k v σ' H' (R : VK) (B : L2.St → Hp → Prop), kvs[i]? = some (k, v) → Pv od i σ' H' → tu ⟨Pv od (i + 1), R, B, Pv od (i + 1)⟩ (σ'.set j (some (kV k))) H')
    (he : ∀ od σ' H', Pv od kvs.length σ' H' → tz D σ' (upd H' d (.dK kvs))) : tSeq (tLock (tFor (iKeys td) (gName j) tu)) tz D σ H :=
  ⟨d, .dK kvs, hd, trivial, fun od => h od _ (Ex.refl _) _ fun H1 e1 => ⟨d, od, rfl, .inl ⟨kvs, e1 _ _ upd_same, for_it walk_keys (Pv od) (h0 od H1 e1) (hl od) (fun i x σ' H' H'' hi p y => by
    obtain ⟨rfl, k, v, hk, rfl⟩ := y
    exact hs od i k v σ' _ _ _ hk p) (fun σ' H' p => ⟨hl od _ σ' H' (Nat.le_refl _) p, he od σ' H' p⟩)⟩⟩⟩
end
/-- xs.extend(..), a new list -/
theorem q_extNL {K : PySem.W.Frag} {σ : L2.St} {H : Hp} {ta te : TE} {D : Ends} {tz : TS} {l : Addr} {xs ys : List V} (hl : H l = some (.lst xs)) (ha : Ev ta σ H (.ref l)) (h : EvL te σ H ys) (hz : xs.length + ys.length ≤ 100000)
    (k : ∀ H1, Ex H H1 → tz D σ (upd H1 l (.lst (xs ++ ys)))) : tSeq (tDrop (tBM K "list" rExtend ta (tCons te tNil))) tz D σ H := ha H (Ex.refl H) _ fun H1 e1 =>
  ⟨Or.inl ⟨rfl, xs, sq_of (e1 l _ hl)⟩, h H1 e1 _ fun p H2 hp e2 hy => ⟨l, p, xs, ys, rfl, rfl, e2 l _ (e1 l _ hl), hy, sz_of hz, k H2 (e1.trans e2)⟩⟩
theorem s_extNL {K : PySem.W.Frag} {σ : L2.St} {H : Hp} {ta te : TE} {D : Ends} {l : Addr} {xs ys : List V} (hl : H l = some (.lst xs)) (ha : Ev ta σ H (.ref l)) (h : EvL te σ H ys) (hz : xs.length + ys.length ≤ 100000)
    (k : ∀ H1, Ex H H1 → D.nx σ (upd H1 l (.lst (xs ++ ys)))) : tDrop (tBM K "list" rExtend ta (tCons te tNil)) D σ H := ha H (Ex.refl H) _ fun H1 e1 =>
  ⟨Or.inl ⟨rfl, xs, sq_of (e1 l _ hl)⟩, h H1 e1 _ fun p H2 hp e2 hy => ⟨l, p, xs, ys, rfl, rfl, e2 l _ (e1 l _ hl), hy, sz_of hz, k H2 (e1.trans e2)⟩⟩
/-- a lock undone -/
theorem ExA.back {d : Addr} {H H' : Hp} {o : HO} (x : ExA d H H') (hd : H d = some o) : Ex H (upd H' d o) := fun b u hb => by
  by_cases h : b = d
  · subst h
    rw [upd_same, ← hb, hd]
  · rw [upd_ne h]
    exact x b u h hb
end J
/-! JFactors: the defs of jobtools/factors.py keep their promises -/
namespace J
open PySem PySem.Spec PyProof.Rows L2 Evl
open JM (bit costL doneB payL scale scaled)
open Dr05 (Shop Job)
abbrev sCostsAt : Stmt := top 34
abbrev sJobsAt : Stmt := top 35
abbrev sLeastAt : Stmt := top 36
abbrev sNext : Stmt := top 37
abbrev sLeastSets : Stmt := top 38
theorem nodup_take : ∀ {js : List Job} {i : Nat} {j : Job}, (js.map fun j => j.num).Nodup → js[i]? = some j → ∀ k ∈ js.take i, k.num ≠ j.num
  | [], i, j, _, h, _, _ => by simp at h
  | x :: r, 0, j, _, _, k, hk => by simp at hk
  | x :: r, i + 1, j, nd, h, k, hk => by
    rw [List.map_cons, List.nodup_cons] at nd
    rw [List.take_succ_cons] at hk
    have h : r[i]? = some j := by simpa using h
    rcases List.mem_cons.mp hk with rfl | hk
    · exact fun z => nd.1 (List.mem_map.mpr ⟨j, List.mem_of_getElem? h, z.symm⟩)
    · exact nodup_take nd.2 h k hk
def spCostsAt (K : PySem.W.Frag) : Sp := fun vs H Q _ => ∃ (c f : Addr) (cs : List Nat) (a b : Nat), vs = [.ref c, .ref f] ∧ SqL K H c (nums cs) ∧ cs.length ≤ 1000 ∧ (∀ x ∈ cs, x ≤ 1000) ∧ H f = some (.tup [.int (a : Int), .int (b : Int)]) ∧ RetL (nums (cs.map fun c => c * a)) H Q
def spJobsAt : Sp := fun vs H Q _ => ∃ (d f : Addr) (js : List Job) (a b : Nat), vs = [.ref d, .ref f] ∧ JobsAt H d js ∧ (js.map fun j => j.num).Nodup ∧ js.length ≤ 1000 ∧ (∀ j ∈ js, j.pay ≤ 1000) ∧ H f = some (.tup [.int (a : Int), .int (b : Int)]) ∧
  ∀ r H2, H r = none → Ex H H2 → JobsAt H2 r (js.map (scale b)) → Q (.ref r) H2
def spLeastAt (K : PySem.W.Frag) : Sp := fun vs H Q _ => ∃ (c d f : Addr) (s : Shop) (a b : Nat), vs = [.ref c, .ref d, .ref f] ∧ SqL K H c (nums s.costs) ∧ JobsAt H d s.jobs ∧ JM.WF s ∧ H f = some (.tup [.int (a : Int), .int (b : Int)]) ∧ RetV (.int (Dr05.least s a b : Nat)) H Q
section
variable {P : Program} {w : World} {K : PySem.W.Frag} {mg : Str → Option Value} {base : Heap}
theorem scCostsAt : FnScope ["costs", "factor", "cost"] ["costs", "factor"] (defScope sCostsAt) := ⟨rfl, rfl, rfl, by decide +kernel, rfl, by decide +kernel, by decide +kernel⟩
theorem ok_costsAt (F : DefAt K mg "costs_at" sCostsAt ["costs", "factor"]) : Cal P w K mg base 1 "costs_at" (spCostsAt K) := by
  refine F.cal scCostsAt (fun vs H Q E h => ?_) (fun f cdv A outer s H vs Q E hr h => ⟨_, pss_one (ps_ret (pe_lc (own := [("cost", 2)]) (g := gName 2) (tt := tYes) (te := tOp (rI CMul fun i j => .int (i * j)) (tVar 2) (tOp (rIxT K) (tVar 1) (tC (.int 0))))
      (by rfl) scCostsAt.nd (pi_list (pv 0)) (blkOk_by (own := [("cost", 2)]) (N := ["costs", "factor", "cost"]) (sc := defScope sCostsAt) (by decide +kernel))
      (fun _ _ _ _ _ => pg_name (i := 2) scCostsAt.nd rfl (Or.inl rfl)) (fun _ _ _ _ _ => pts_nil) (fun _ _ _ _ _ => pe_op op_mul (pv 2) (pe_ix ix_tup (pv 1) pe_int (fun _ _ => rfl))))), ?_⟩)
  · obtain ⟨c, f, cs, a, b, rfl, _⟩ := h
    rfl
  · obtain ⟨c, f, cs, a, b, rfl, hc, hl, hle, hf, k⟩ := h
    refine s_retL (el_is (el_lcL (xs := nums cs) (fun _ => true) (fun i => V.int ((cs.getD i 0 * a : Nat) : Int)) (ev_var rfl) hc (by rw [List.length_map]; omega) (fun _ => rfl) (fun i x H1 e1 hx => et_yes) (fun i x H1 e1 hx _ => ?_)) ?_) k
    · obtain ⟨rfl, hi⟩ := nums_get hx
      have hb : cs.getD i 0 ≤ 1000 := hle _ (by rw [List.getD_eq_getElem?_getD, List.getElem?_eq_getElem hi]; exact List.getElem_mem hi)
      refine ev_is (ev_op (ev_var rfl) (ev_op (ev_var rfl) ev_c (rv_ixT (st_of (e1 _ _ hf)) (atI_nat (j := 0) rfl))) (rv_I (.inl ⟨by omega, by omega⟩))) ?_
      rw [Int.natCast_mul]
    · rw [given_all, List.length_map, map_range cs 0 fun c => V.int ((c * a : Nat) : Int)]
      unfold nums
      rw [List.map_map]
      rfl
theorem scJobsAt : FnScope ["jobs", "factor", "raised", "number"] ["jobs", "factor"] (defScope sJobsAt) := ⟨rfl, rfl, rfl, by decide +kernel, rfl, by decide +kernel, by decide +kernel⟩
theorem ok_jobsAt (F : DefAt K mg "jobs_at" sJobsAt ["jobs", "factor"]) : Cal P w K mg base 1 "jobs_at" spJobsAt := by
  refine F.cal scJobsAt (fun vs H Q E h => ?_) (fun f cdv A outer s H vs Q E hr h => ⟨_, pss_cons (ps_set (i := 2) scJobsAt.nd rfl (Or.inl rfl) pe_dnewK)
    (pss_cons (ps_lock (ps_for PassesOwn.never rfl (pi_keys (pv 0)) (pg_name (i := 3) scJobsAt.nd rfl (Or.inl rfl))
      (pss_one (ps_dput (hu_of hr) (pv 2) (pv 3) (pe_tup (pa_cons (pe_op op_mul (pe_ix ix_tup (pe_dget (hu_of hr) (pv 0) (pv 3) (fun _ _ => rfl)) pe_int (fun _ _ => rfl)) (pe_ix ix_tup (pv 1) pe_int (fun _ _ => rfl)))
        (pa_cons (pe_ix ix_tup (pe_dget (hu_of hr) (pv 0) (pv 3) (fun _ _ => rfl)) pe_int (fun _ _ => rfl)) pa_nil))) rfl))))
    (pss_one (ps_ret (pv 2)))), ?_⟩)
  · obtain ⟨d, f, js, a, b, rfl, _⟩ := h
    rfl
  · obtain ⟨d, f, js, a, b, rfl, ⟨kvs, hd, pr⟩, nd, hl, hle, hf, k⟩ := h
    intro r hr0
    have ndr : d ≠ r := ne_of_none hd hr0
    have nfr : f ≠ r := ne_of_none hf hr0
    have nfd : f ≠ d := ne_of hf hd (by intro z; cases z)
    refine q_forK (kvs := kvs) (d := d) (by rw [upd_ne ndr]; exact hd) (fun H1 => ev_var rfl) (fun od i σ' H' => ∃ u3 kvr, σ' = [some (.ref d), some (.ref f), some (.ref r), u3] ∧ H' d = some (.frz od (.dK kvs)) ∧ ExA d H H' ∧ H' r = some (.dK kvr) ∧ Paired (JobKV H') kvr ((js.take i).map (scale b)))
      (fun od H1 e1 => ⟨none, [], rfl, e1 _ _ upd_same, fun b' o n h' => e1 _ _ (by rw [upd_ne n, upd_ne (ne_of_none h' hr0)]; exact h'), e1 _ _ (by rw [upd_ne ndr.symm, upd_same]), .nil⟩)
      (fun od i σ' H' hi ⟨_, _, _, h1, _⟩ => h1) (fun od i kk vv σ' H' R B hk ⟨u3, kvr, eσ, h1, h2, h3, h4⟩ => ?_) (fun od σ' H' ⟨u3, kvr, eσ, h1, h2, h3, h4⟩ => ?_)
    · subst eσ
      obtain ⟨j, hj, hk1, _⟩ := paired_get pr hk
      have hk1 : kk = Sum.inl (j.num : Int) := hk1
      subst hk1
      have hjm := List.mem_of_getElem? hj
      obtain ⟨t1, v1, v2⟩ := jobs_val pr nd j hjm
      have hT : H' t1 = some (.tup [.int (j.pay : Int), .int (j.needs : Int)]) := h2 _ _ (ne_of v2 hd (by intro z; cases z)) v2
      have hF := h2 _ _ nfd hf
      have hrd : Rd H' d (.dK kvs) := .inr ⟨_, h1⟩
      have hb : j.pay ≤ 1000 := hle j hjm
      have hl2 : kvr.length < 100000 := by
        rw [paired_len h4, List.length_map, List.length_take]
        omega
      refine s_dputU (d := r) (kvs := kvr) (k := Sum.inl (j.num : Int)) (xs := [.int ((j.pay * b : Nat) : Int), .int (j.needs : Int)]) (eu_tup (ea_cons (ev_is (ev_op (ev_op (ev_dget (k := Sum.inl (j.num : Int)) (ev_var rfl) (ev_var rfl) hrd v1) ev_c (rv_ixT (st_of hT) (atI_nat (j := 0) rfl)))
        (ev_op (ev_var rfl) ev_c (rv_ixT (st_of hF) (atI_nat (j := 1) rfl))) (rv_I (.inl ⟨by omega, by omega⟩))) (by rw [Int.natCast_mul]))
        (ea_cons (ev_op (ev_dget (k := Sum.inl (j.num : Int)) (ev_var rfl) (ev_var rfl) hrd v1) ev_c (rv_ixT (st_of hT) (atI_nat (j := 1) rfl))) ea_nil)) (by show 2 ≤ 100000; decide)) (ev_var rfl) (ev_var rfl) h3 hl2 fun p H1 hp e1 hpt => ?_
      have hno : valV kvr (Sum.inl (j.num : Int)) = none := jobs_no h4 fun k' hk' => by
        obtain ⟨k0, hk0, rfl⟩ := List.mem_map.mp hk'
        exact nodup_take nd hj k0 hk0
      have tp : ∀ b' xs, H1 b' = some (.tup xs) → upd H1 r (.dK (putK kvr (Sum.inl (j.num : Int)) (.ref p))) b' = some (.tup xs) := fun b' xs h' => by
        rw [upd_ne (ne_of h' (e1 _ _ h3) (by intro z; cases z))]
        exact h'
      refine ⟨some (.int (j.num : Int)), kvr ++ [(Sum.inl (j.num : Int), .ref p)], rfl, ?_, ?_, ?_, ?_⟩
      · rw [upd_ne ndr]
        exact e1 _ _ h1
      · intro b' o n h'
        rw [upd_ne (ne_of_none h' hr0)]
        exact e1 _ _ (h2 _ _ n h')
      · rw [upd_same, putK_new _ hno]
      · have ht : js.take (i + 1) = js.take i ++ [j] := by rw [List.take_add_one, hj]; rfl
        rw [ht, List.map_append]
        exact paired_snoc (jobs_ex (fun b' xs h' => tp b' xs (e1 _ _ h')) h4) ⟨rfl, p, rfl, tp _ _ hpt⟩
    · subst eσ
      refine s_ret (ev_var rfl) fun H1 e1 => k r H1 hr0 ((h2.back hd).trans e1) ⟨kvr, e1 _ _ (by rw [upd_ne ndr.symm]; exact h3), ?_⟩
      have e : js.take kvs.length = js := by rw [paired_len pr, List.take_length]
      rw [e] at h4
      exact jobs_ex (fun b' xs h' => e1 _ _ (by rw [upd_ne (ne_of h' h1 (by intro z; cases z))]; exact h')) h4
theorem scLeastAt : FnScope ["costs", "jobs", "factor"] ["costs", "jobs", "factor"] (defScope sLeastAt) := ⟨rfl, rfl, rfl, by decide +kernel, rfl, by decide +kernel, by decide +kernel⟩
theorem ok_leastAt (F : DefAt K mg "least_at" sLeastAt ["costs", "jobs", "factor"]) (cA : Cal P w K mg base 1 "what_all_have" (spAllHave K)) (cW : Cal P w K mg base 7 "worth_having" (spWorth K)) (cC : Cal P w K mg base 1 "costs_at" (spCostsAt K)) (cJ : Cal P w K mg base 1 "jobs_at" spJobsAt) : Cal P w K mg base 8 "least_at" (spLeastAt K) := by
  refine F.cal scLeastAt (fun vs H Q E h => ?_) (fun f cdv A outer s H vs Q E hr h => ⟨_, pss_one (ps_ret (pe_c cA hr (by decide) (by rfl) (pa_cons (pe_c cW hr (by decide) (by rfl) (pa_cons (pe_c cC hr (by decide) (by rfl) (pa_cons (pv 0) (pa_cons (pv 2) pa_nil)))
    (pa_cons (pe_c cJ hr (by decide) (by rfl) (pa_cons (pv 1) (pa_cons (pv 2) pa_nil))) pa_nil))) pa_nil))), ?_⟩)
  · obtain ⟨c, d, f, s, a, b, rfl, _⟩ := h
    rfl
  · obtain ⟨c, d, f, s, a, b, rfl, hc, hj, wf, hf, k⟩ := h
    obtain ⟨x, r, eb⟩ := JM.best_cons s a b
    have hc5 := wf.c5
    have hj5 := wf.j5
    refine s_ret (v := .int (Dr05.least s a b : Nat)) (ep_ev (R := fun x' _ => x' = .int (Dr05.least s a b : Nat)) (ep_call (RA := fun vs H' => ∃ v vs', vs = v :: vs' ∧ (∃ p, v = .ref p ∧ H' p = some (.lst (nums (Dr05.best s a b)))) ∧ vs' = []) (epa_cons stb_at (ep_call (RA := fun vs H' => ∃ v vs', vs = v :: vs' ∧ (∃ p, v = .ref p ∧ H' p = some (.lst (nums (s.costs.map fun c => c * a)))) ∧ ∃ v2 vs2, vs' = v2 :: vs2 ∧ (∃ r, v2 = .ref r ∧ JobsAt H' r (s.jobs.map (scale b))) ∧ vs2 = [])
      (epa_cons stb_at (ep_l (el_call (ea_cons (ev_var rfl) (ea_cons (ev_var rfl) ea_nil)) fun H1 e1 Q1 q1 E1 => ⟨c, f, s.costs, a, b, rfl, ex_l e1 hc, by omega, wf.cle, e1 _ _ hf, q1⟩))
        (epa_cons (fun v H1 H2 e ⟨r, h1, h2⟩ => ⟨r, h1, h2.ex e⟩) (ep_call (RA := fun vs _ => ∃ v vs', vs = v :: vs' ∧ v = .ref d ∧ ∃ v2 vs2, vs' = v2 :: vs2 ∧ v2 = .ref f ∧ vs2 = []) (epa_cons stb_eq (ep_v (ev_var rfl)) (epa_cons stb_eq (ep_v (ev_var rfl)) epa_nil)) ?_) epa_nil)) ?_) epa_nil) ?_) (fun _ _ h => h)) k
    · rintro vs H1 e1 ⟨v, vs', rfl, rfl, v2, vs2, rfl, rfl, rfl⟩ Q1 q1
      exact ⟨d, f, s.jobs, a, b, rfl, hj.ex e1, wf.nd, by omega, wf.pl, e1 _ _ hf, fun r H2 _ e2 h2 => q1 _ H2 e2 ⟨r, rfl, h2⟩⟩
    · rintro vs H1 e1 ⟨v, vs', rfl, ⟨p, rfl, hp⟩, v2, vs2, rfl, ⟨r, rfl, hr2⟩, rfl⟩ Q1 q1
      refine ⟨p, r, scaled s a b, rfl, sq_of hp, hr2, JM.sz_scaled a b wf.sz, fun p2 H2 _ e2 h2 => q1 _ H2 e2 ⟨p2, rfl, ?_⟩⟩
      rw [JM.best_scaled] at h2
      exact h2
    · rintro vs H1 e1 ⟨v, vs', rfl, ⟨p, rfl, hp⟩, rfl⟩ Q1 q1
      rw [eb] at hp
      exact ⟨p, x, r, rfl, sq_of hp, fun H2 e2 => q1 _ H2 e2 (by rw [JM.least_fold s a b eb])⟩
/-- the first even point of u, as two numbers -/
def IsNext (s : Shop) (u L S : Nat) : Prop := ∃ t0, t0 < 2 ^ s.costs.length ∧ costL s.costs t0 < costL s.costs u ∧ L + payL s.jobs t0 = payL s.jobs u ∧ S + costL s.costs t0 = costL s.costs u ∧
  ∀ t, t < 2 ^ s.costs.length → costL s.costs t < costL s.costs u → (L : Int) * ((costL s.costs u - costL s.costs t : Nat) : Int) ≤ ((payL s.jobs u : Int) - (payL s.jobs t : Int)) * (S : Int)
def spNext (K : PySem.W.Frag) : Sp := fun vs H Q _ => ∃ (c d : Addr) (s : Shop) (u : Nat), vs = [.ref c, .ref d, .int (u : Int)] ∧ SqL K H c (nums s.costs) ∧ JobsAt H d s.jobs ∧ JM.WF s ∧ 0 < costL s.costs u ∧
  (∀ t, t < 2 ^ s.costs.length → costL s.costs t < costL s.costs u → payL s.jobs t ≤ payL s.jobs u) ∧ ∀ q H2 L S, Ex H H2 → H2 q = some (.tup [.int ((L : Nat) : Int), .int ((S : Nat) : Int)]) → IsNext s u L S → Q (.ref q) H2
theorem scNext : FnScope ["costs", "jobs", "least", "paid", "cost", "lowest", "tools", "lost", "saved"] ["costs", "jobs", "least"] (defScope sNext) := ⟨rfl, rfl, rfl, by decide +kernel, rfl, by decide +kernel, by decide +kernel⟩
theorem ok_next (F : DefAt K mg "next_factor" sNext ["costs", "jobs", "least"]) (cP : Cal P w K mg base 3 "paid_with" spPaid) (cC : Cal P w K mg base 1 "cost_of" (spCost K)) (cA : Cal P w K mg base 2 "all_sets" (spAllSets K)) : Cal P w K mg base 4 "next_factor" (spNext K) := by
  refine F.cal scNext (fun vs H Q E h => ?_) (fun f cdv A outer s H vs Q E hr h => ⟨_, pss_cons (ps_set (i := 3) scNext.nd rfl (Or.inl rfl) (pe_c cP hr (by decide) (by rfl) (pa_cons (pv 1) (pa_cons (pv 2) pa_nil))))
    (pss_cons (ps_set (i := 4) scNext.nd rfl (Or.inl rfl) (pe_c cC hr (by decide) (by rfl) (pa_cons (pv 0) (pa_cons (pv 2) pa_nil))))
    (pss_cons (ps_set (i := 5) scNext.nd rfl (Or.inl rfl) (pe_tup (pa_cons (pv 3) (pa_cons (pv 4) pa_nil))))
    (pss_cons (ps_for PassesOwn.never rfl (pi_list (pe_c cA hr (by decide) (by rfl) (pa_cons (pv 0) pa_nil))) (pg_name (i := 6) scNext.nd rfl (Or.inl rfl))
      (pss_cons (ps_set (i := 7) scNext.nd rfl (Or.inl rfl) (pe_op op_sub (pv 3) (pe_c cP hr (by decide) (by rfl) (pa_cons (pv 1) (pa_cons (pv 6) pa_nil)))))
      (pss_cons (ps_set (i := 8) scNext.nd rfl (Or.inl rfl) (pe_op op_sub (pv 4) (pe_c cC hr (by decide) (by rfl) (pa_cons (pv 0) (pa_cons (pv 6) pa_nil)))))
      (pss_one (ps_if (PW.pt (pw_and (pt_cmpR op_gt (pv 8) pe_int (nomark _)) (pw_and1 (pt_cmpR op_lt (pe_op op_mul (pv 7) (pe_ix ix_tup (pv 5) pe_int (fun _ _ => rfl))) (pe_op op_mul (pe_ix ix_tup (pv 5) pe_int (fun _ _ => rfl)) (pv 8)) (nomark _)))))
        (pss_one (ps_set (i := 5) scNext.nd rfl (Or.inl rfl) (pe_tup (pa_cons (pv 7) (pa_cons (pv 8) pa_nil))))) pss_nil)))))
    (pss_one (ps_ret (pv 5)))))), ?_⟩)
  · obtain ⟨c, d, s, u, rfl, _⟩ := h
    rfl
  · obtain ⟨c, d, s, u, rfl, hc, hj, wf, hu0, hpay, k⟩ := h
    have c5 := wf.c5
    have hcle : ∀ t, costL s.costs t ≤ 5000 := fun t => by
      have z := JM.costL_le wf.cle t
      omega
    have e2p : 2 ^ s.costs.length ≤ 2 ^ 5 := Nat.pow_le_pow_right (by decide) wf.c5
    refine q_asg (v := .int (payL s.jobs u : Nat)) (ev_call (ea_cons (ev_var rfl) (ea_cons (ev_var rfl) ea_nil)) fun H1 e1 Q1 q1 E1 => ⟨d, s.jobs, u, rfl, hj.ex e1, wf.nd, wf.j5, q1⟩) fun H1 e1 => ?_
    refine q_asg (v := .int (costL s.costs u : Nat)) (ev_call (ea_cons (ev_var rfl) (ea_cons (ev_var rfl) ea_nil)) fun H2 e2 Q2 q2 E2 => ⟨c, s.costs, u, rfl, ex_l (e1.trans e2) hc, by omega, q2⟩) fun H2 e2 => ?_
    refine q_asgU (eu_tup (ea_cons (ev_var rfl) (ea_cons (ev_var rfl) ea_nil)) (by show 2 ≤ 100000; decide)) fun q0 H3 hq0 e3 h3 => ?_
    have e03 := (e1.trans e2).trans e3
    refine q_forNLn (xs := nums (Dr05.sets s)) (el_call (ea_cons (ev_var rfl) ea_nil) fun H4 e4 Q4 q4 E4 => ⟨c, nums s.costs, rfl, ex_l (e03.trans e4) hc, by rw [List.length_map]; exact c5, by rw [List.length_map]; exact q4⟩)
      (fun p i σ' H' => ∃ (q : Addr) (u6 u7 u8 : Option V) (L S t0 : Nat), σ' = [some (.ref c), some (.ref d), some (.int (u : Int)), some (.int (payL s.jobs u : Nat)), some (.int (costL s.costs u : Nat)), some (.ref q), u6, u7, u8] ∧ H' p = some (.lst (nums (Dr05.sets s))) ∧ Ex H H' ∧ H' q = some (.tup [.int (L : Int), .int (S : Int)]) ∧
        t0 < 2 ^ s.costs.length ∧ costL s.costs t0 < costL s.costs u ∧ L + payL s.jobs t0 = payL s.jobs u ∧ S + costL s.costs t0 = costL s.costs u ∧ ∀ t, t < i → costL s.costs t < costL s.costs u → (L : Int) * ((costL s.costs u - costL s.costs t : Nat) : Int) ≤ ((payL s.jobs u : Int) - (payL s.jobs t : Int)) * (S : Int))
      (fun p H4 hp e4 h4 => ⟨q0, none, none, none, payL s.jobs u, costL s.costs u, 0, rfl, h4, e03.trans e4, e4 _ _ h3, Nat.two_pow_pos _, by rw [JM.costL_zero]; exact hu0, by rw [JM.payL_zero wf.n0]; rfl, by rw [JM.costL_zero]; rfl, fun t ht => absurd ht (Nat.not_lt_zero _)⟩)
      (fun p i σ' H' _ ⟨_, _, _, _, _, _, _, _, h, _⟩ => sq_of h) (fun p i x σ' H' hx ⟨q, u6, u7, u8, L, S, t0, eσ, hp, eH, hq, ht0, hc0, hL, hS, hm⟩ => ?_) (fun p σ' H' ⟨q, u6, u7, u8, L, S, t0, eσ, hp, eH, hq, ht0, hc0, hL, hS, hm⟩ => ?_)
    · subst eσ
      obtain ⟨rfl, hi⟩ := nums_get hx
      have hi2 : i < 2 ^ s.costs.length := by
        unfold Dr05.sets at hi
        rw [List.length_range] at hi
        exact hi
      have ei : (Dr05.sets s).getD i 0 = i := by
        unfold Dr05.sets
        rw [List.getD_eq_getElem?_getD, List.getElem?_range hi2]
        rfl
      rw [ei]
      refine q_asg (v := .int ((payL s.jobs u : Int) - (payL s.jobs i : Int))) (ev_op (ev_var rfl) (ev_call (z := .int (payL s.jobs i : Nat)) (ea_cons (ev_var rfl) (ea_cons (ev_var rfl) ea_nil)) fun H5 e5 Q5 q5 E5 => ⟨d, s.jobs, i, rfl, hj.ex (eH.trans e5), wf.nd, wf.j5, q5⟩) rv_I0) fun H5 e5 => ?_
      refine q_asg (v := .int ((costL s.costs u : Int) - (costL s.costs i : Int))) (ev_op (ev_var rfl) (ev_call (z := .int (costL s.costs i : Nat)) (ea_cons (ev_var rfl) (ea_cons (ev_var rfl) ea_nil)) fun H6 e6 Q6 q6 E6 => ⟨c, s.costs, i, rfl, ex_l ((eH.trans e5).trans e6) hc, by omega, q6⟩) rv_I0) fun H6 e6 => ?_
      have eH6 := (eH.trans e5).trans e6
      have hq6 := (e5.trans e6) _ _ hq
      have hcu := hcle u
      have hci := hcle i
      refine s_when (et_and (a := decide ((0 : Int) < (costL s.costs u : Int) - (costL s.costs i : Int))) (b := decide (((payL s.jobs u : Int) - (payL s.jobs i : Int)) * (S : Int) < (L : Int) * ((costL s.costs u : Int) - (costL s.costs i : Int)))) (et_test (ev_op (ev_var rfl) ev_c rv_I0)) fun _ => et_test (ev_op (ev_op (ev_var rfl) (ev_op (ev_var rfl) ev_c (rv_ixT (st_of hq6) (atI_nat (j := 1) rfl))) (rv_I (.inr ⟨by omega, by omega⟩)))
        (ev_op (ev_op (ev_var rfl) ev_c (rv_ixT (st_of hq6) (atI_nat (j := 0) rfl))) (ev_var rfl) (rv_I (.inr ⟨by omega, by omega⟩))) rv_I0)) (fun e H7 e7 => ?_) (fun e H7 e7 => ?_)
      · rw [Bool.and_eq_true, decide_eq_true_eq, decide_eq_true_eq] at e
        obtain ⟨g1, g2⟩ := e
        have hlt : costL s.costs i < costL s.costs u := by omega
        have hge := hpay i hi2 hlt
        refine s_asgU (eu_tup (ea_cons (ev_var rfl) (ea_cons (ev_var rfl) ea_nil)) (by show 2 ≤ 100000; decide)) fun q1 H8 hq1 e8 h8 => ?_
        have z1 : ((payL s.jobs u : Int) - (payL s.jobs i : Int)) = ((payL s.jobs u - payL s.jobs i : Nat) : Int) := by omega
        have z2 : ((costL s.costs u : Int) - (costL s.costs i : Int)) = ((costL s.costs u - costL s.costs i : Nat) : Int) := by omega
        refine ⟨q1, _, _, _, payL s.jobs u - payL s.jobs i, costL s.costs u - costL s.costs i, i, rfl, (((e5.trans e6).trans e7).trans e8) _ _ hp, (eH6.trans e7).trans e8, ?_, hi2, hlt, by omega, by omega, fun t ht htc => ?_⟩
        · rw [h8, z1, z2]
        · rw [← z1, ← z2]
          by_cases hti : t = i
          · subst hti
            rw [z2]
            exact Int.le_refl _
          · exact JM.min_next (S := (S : Int)) (L := (L : Int)) (by omega) (by omega) (by omega) g2 (hm t (by omega) htc)
      · refine ⟨q, _, _, _, L, S, t0, rfl, ((e5.trans e6).trans e7) _ _ hp, eH6.trans e7, e7 _ _ hq6, ht0, hc0, hL, hS, fun t ht htc => ?_⟩
        by_cases hti : t = i
        · subst hti
          rw [Bool.and_eq_false_iff, decide_eq_false_iff_not, decide_eq_false_iff_not] at e
          have z2 : ((costL s.costs u : Int) - (costL s.costs t : Int)) = ((costL s.costs u - costL s.costs t : Nat) : Int) := by omega
          rcases e with e | e
          · omega
          · rw [← z2]
            exact Int.not_lt.mp e
        · exact hm t (by omega) htc
    · subst eσ
      have el : (nums (Dr05.sets s)).length = 2 ^ s.costs.length := by
        unfold Dr05.sets nums
        rw [List.length_map, List.length_range]
      rw [el] at hm
      exact s_ret (ev_var rfl) fun H5 e5 => k q H5 L S (eH.trans e5) (e5 _ _ hq) ⟨t0, ht0, hc0, hL, hS, hm⟩
/-! ### all least sets -/
abbrev Fnd : Type := (Nat × Nat) × Nat
def FndV (H : Hp) (x : V) (y : Fnd) : Prop := ∃ t f, x = .ref t ∧ H t = some (.tup [.ref f, .int (y.2 : Int)]) ∧ H f = some (.tup [.int (y.1.1 : Int), .int (y.1.2 : Int)])
theorem fnd_ex {H H' : Hp} {xs : List V} {l : List Fnd} (h : ∀ b xs, H b = some (.tup xs) → H' b = some (.tup xs)) (p : Paired (FndV H) xs l) : Paired (FndV H') xs l :=
  Paired.mapP p fun x y ⟨t, f, h1, h2, h3⟩ => ⟨t, f, h1, h _ _ h2, h _ _ h3⟩
def stepOf (y : Fnd) : Rat × Nat := (mkRat (y.1.1 : Int) y.1.2, y.2)
def spLeastSets (K : PySem.W.Frag) : Sp := fun vs H Q _ => ∃ (c d : Addr) (s : Shop), vs = [.ref c, .ref d] ∧ SqL K H c (nums s.costs) ∧ JobsAt H d s.jobs ∧ JM.WF s ∧
  ∀ p H2 xs l, H p = none → Ex H H2 → H2 p = some (.lst xs) → Paired (FndV H2) xs (((0, 1), Dr05.start s) :: l) → l.map stepOf = Dr05.steps s → (∀ y ∈ l, y.1.2 ≠ 0 ∧ y.1.2 ≤ 5000) → l.length ≤ 5 → Q (.ref p) H2
theorem scLeastSets : FnScope ["costs", "jobs", "factor", "least", "found"] ["costs", "jobs"] (defScope sLeastSets) := ⟨rfl, rfl, rfl, by decide +kernel, rfl, by decide +kernel, by decide +kernel⟩
theorem ok_leastSets (F : DefAt K mg "least_sets" sLeastSets ["costs", "jobs"]) (cL : Cal P w K mg base 8 "least_at" (spLeastAt K)) (cC : Cal P w K mg base 1 "cost_of" (spCost K)) (cN : Cal P w K mg base 4 "next_factor" (spNext K)) : Cal P w K mg base 9 "least_sets" (spLeastSets K) := by
  refine F.cal scLeastSets (fun vs H Q E h => ?_) (fun f cdv A outer s H vs Q E hr h => ⟨_, pss_cons (ps_set (i := 2) scLeastSets.nd rfl (Or.inl rfl) (pe_tup (pa_cons pe_int (pa_cons pe_int pa_nil))))
    (pss_cons (ps_set (i := 3) scLeastSets.nd rfl (Or.inl rfl) (pe_c cL hr (by decide) (by rfl) (pa_cons (pv 0) (pa_cons (pv 1) (pa_cons (pv 2) pa_nil)))))
    (pss_cons (ps_set (i := 4) scLeastSets.nd rfl (Or.inl rfl) (pe_lst (pa_cons (pe_tup (pa_cons (pv 2) (pa_cons (pv 3) pa_nil))) pa_nil)))
    (pss_cons (ps_while PassesOwn.never (pt_cmpR op_gt (pe_c cC hr (by decide) (by rfl) (pa_cons (pv 0) (pa_cons (pv 3) pa_nil))) pe_int (nomark _))
      (pss_cons (ps_set (i := 2) scLeastSets.nd rfl (Or.inl rfl) (pe_c cN hr (by decide) (by rfl) (pa_cons (pv 0) (pa_cons (pv 1) (pa_cons (pv 3) pa_nil)))))
      (pss_cons (ps_set (i := 3) scLeastSets.nd rfl (Or.inl rfl) (pe_c cL hr (by decide) (by rfl) (pa_cons (pv 0) (pa_cons (pv 1) (pa_cons (pv 2) pa_nil)))))
      (pss_one (ps_expr (pe_bm PySem.F.plainAttrs_list PySem.F.slot_list_append PySem.F.type_list_append mt_append (pv 4) (pa_cons (pe_tup (pa_cons (pv 2) (pa_cons (pv 3) pa_nil))) pa_nil)))))))
    (pss_one (ps_ret (pv 4)))))), ?_⟩)
  · obtain ⟨c, d, s, rfl, _⟩ := h
    rfl
  · obtain ⟨c, d, s, rfl, hc, hj, wf, k⟩ := h
    have c5 := wf.c5
    have hcle : ∀ t, costL s.costs t ≤ 5000 := fun t => by
      have z := JM.costL_le wf.cle t
      omega
    refine q_asgU (eu_tup (ea_cons ev_c (ea_cons ev_c ea_nil)) (by show 2 ≤ 100000; decide)) fun f0 H1 hf0 e1 h1 => ?_
    refine q_asg (v := .int (Dr05.start s : Nat)) (ev_call (ea_cons (ev_var rfl) (ea_cons (ev_var rfl) (ea_cons (ev_var rfl) ea_nil))) fun H2 e2 Q2 q2 E2 => ⟨c, d, f0, s, 0, 1, rfl, ex_l (e1.trans e2) hc, hj.ex (e1.trans e2), wf, e2 _ _ h1, q2⟩) fun H2 e2 => ?_
    have e02 := e1.trans e2
    refine q_asgLU (eu_tup (ea_cons (ev_var rfl) (ea_cons (ev_var rfl) ea_nil)) (by show 2 ≤ 100000; decide)) fun t0 p H3 hp e3 h3 hp3 => ?_
    have e03 := e02.trans e3
    have hp0 : H p = none := fresh_back e02 hp
    have hsz := JM.size_le s (Dr05.start s)
    refine q_while (fun m σ' H' => ∃ (f a b u n : Nat) (xs : List V) (l : List Fnd), σ' = [some (.ref c), some (.ref d), some (.ref f), some (.int (u : Int)), some (.ref p)] ∧ H' f = some (.tup [.int (a : Int), .int (b : Int)]) ∧ 0 < b ∧ Dr05.least s a b = u ∧ Ex H H' ∧ H' p = some (.lst xs) ∧ Paired (FndV H') xs (((0, 1), Dr05.start s) :: l) ∧
      (∀ y ∈ l, y.1.2 ≠ 0 ∧ y.1.2 ≤ 5000) ∧ l.map stepOf ++ Dr05.stepsFrom s n u = Dr05.steps s ∧ JM.size s u + 1 ≤ n ∧ m = JM.size s u ∧ l.length + JM.size s u ≤ 5) (JM.size s (Dr05.start s)) ?_ ?_
    · exact ⟨f0, 0, 1, Dr05.start s, s.costs.length + 1, [.ref t0], [], rfl, (e2.trans e3) _ _ h1, by decide, rfl, e03, hp3, .cons ⟨t0, f0, rfl, h3, (e2.trans e3) _ _ h1⟩ .nil, fun y hy => by simp at hy, rfl, by omega, rfl, by show 0 + _ ≤ 5; omega⟩
    · rintro m σ' H' ⟨f, a, b, u, n, xs, l, rfl, hf, hb, hu, eH, hp', pr, hl, hst, hn, rfl, hl5⟩
      refine ⟨decide (0 < costL s.costs u), et_is (et_test (ev_op (ev_call (z := .int (costL s.costs u : Nat)) (ea_cons (ev_var rfl) (ea_cons (ev_var rfl) ea_nil)) fun H5 e5 Q5 q5 E5 => ⟨c, s.costs, u, rfl, ex_l (eH.trans e5) hc, by omega, q5⟩) ev_c rv_I0)) (dec_gt (costL s.costs u) 0), fun hpos H5 e5 => ?_, fun hz H5 e5 => ?_⟩
      · have hpos := of_decide_eq_true hpos
        have eH5 := eH.trans e5
        refine ⟨fun σ2 H2 => ∃ m', m' < JM.size s u ∧ ∃ (f a b u n : Nat) (xs : List V) (l : List Fnd), σ2 = [some (.ref c), some (.ref d), some (.ref f), some (.int (u : Int)), some (.ref p)] ∧ H2 f = some (.tup [.int (a : Int), .int (b : Int)]) ∧ 0 < b ∧ Dr05.least s a b = u ∧ Ex H H2 ∧ H2 p = some (.lst xs) ∧ Paired (FndV H2) xs (((0, 1), Dr05.start s) :: l) ∧
          (∀ y ∈ l, y.1.2 ≠ 0 ∧ y.1.2 ≤ 5000) ∧ l.map stepOf ++ Dr05.stepsFrom s n u = Dr05.steps s ∧ JM.size s u + 1 ≤ n ∧ m' = JM.size s u ∧ l.length + JM.size s u ≤ 5, fun σ2 H2 h => h, ?_⟩
        refine q_asgP (R := fun v H' => ∃ q L S, v = .ref q ∧ H' q = some (.tup [.int ((L : Nat) : Int), .int ((S : Nat) : Int)]) ∧ IsNext s u L S) (ep_call (RA := fun vs _ => vs = [.ref c, .ref d, .int (u : Int)]) (fun H6 e6 Q6 q6 => (ea_cons (ev_var rfl) (ea_cons (ev_var rfl) (ea_cons (ev_var rfl) ea_nil))) H6 (Ex.refl _) _ fun H7 e7 => q6 _ H7 e7 rfl) ?_) fun v H6 e6 ⟨q, L, S, ev, hq, hnx⟩ => ?_
        · rintro vs H6 e6 rfl Q6 q6
          exact ⟨c, d, s, u, rfl, ex_l (eH5.trans e6) hc, hj.ex (eH5.trans e6), wf, hpos, fun t ht htc => JM.paid_ge hb hu ht htc, fun q H7 L S e7 h7 hx => q6 _ H7 e7 ⟨q, L, S, rfl, h7, hx⟩⟩
        · subst ev
          obtain ⟨tt, ht, htc, hL, hS, hmin⟩ := hnx
          have hSu := hcle u
          obtain ⟨n', rfl⟩ : ∃ n', n = n' + 1 := ⟨n - 1, by omega⟩
          obtain ⟨hs1, hs2⟩ := JM.steps_next (n := n') hb hu ht htc (L := L) (S := S) (by unfold JM.pu; omega) (by omega) hmin
          refine q_asg (v := .int (Dr05.least s L S : Nat)) (ev_call (ea_cons (ev_var rfl) (ea_cons (ev_var rfl) (ea_cons (ev_var rfl) ea_nil))) fun H7 e7 Q7 q7 E7 => ⟨c, d, q, s, L, S, rfl, ex_l ((eH5.trans e6).trans e7) hc, hj.ex ((eH5.trans e6).trans e7), wf, e7 _ _ hq, q7⟩) fun H7 e7 => ?_
          have e57 := (e5.trans e6).trans e7
          have lx : xs.length < 100000 := by
            rw [paired_len pr, List.length_cons]
            omega
          refine s_appU (e57 _ _ hp') (ev_var rfl) (eu_tup (ea_cons (ev_var rfl) (ea_cons (ev_var rfl) ea_nil)) (by show 2 ≤ 100000; decide)) lx fun q2 H8 hq2 e8 h8 => ?_
          have e58 := e57.trans e8
          have tp : ∀ b' ys, H8 b' = some (.tup ys) → upd H8 p (.lst (xs ++ [.ref q2])) b' = some (.tup ys) := fun b' ys h' => by
            rw [upd_ne (ne_of h' (e58 _ _ hp') (by intro z; cases z))]
            exact h'
          refine ⟨JM.size s (Dr05.least s L S), hs2, q, L, S, Dr05.least s L S, n', xs ++ [.ref q2], l ++ [((L, S), Dr05.least s L S)], rfl, tp _ _ ((e7.trans e8) _ _ hq), by omega, rfl, ?_, upd_same, ?_, ?_, ?_, by omega, rfl, ?_⟩
          · exact (eH.trans e58).mut hp0
          · rw [← List.cons_append]
            exact paired_snoc (fnd_ex (fun b' ys h' => tp b' ys (e58 _ _ h')) pr) ⟨q2, q, rfl, tp _ _ h8, tp _ _ ((e7.trans e8) _ _ hq)⟩
          · intro y hy
            rcases List.mem_append.mp hy with hy | hy
            · exact hl y hy
            · rw [List.mem_singleton] at hy
              subst hy
              exact ⟨by show S ≠ 0; omega, by show S ≤ 5000; omega⟩
          · rw [hs1] at hst
            rw [← hst, List.map_append, List.append_assoc]
            rfl
          · rw [List.length_append]
            show l.length + 1 + _ ≤ 5
            omega
      · have hz := of_decide_eq_false hz
        rw [JM.steps_end (by omega), List.append_nil] at hst
        refine s_ret (ev_var rfl) fun H6 e6 => k p H6 xs l hp0 (eH.trans (e5.trans e6)) ((e5.trans e6) _ _ hp') (fnd_ex (fun b' ys h' => (e5.trans e6) _ _ h') pr) hst hl (by omega)
end
end J
/-! JRatios: the defs of jobtools/ratios.py keep their promises -/
namespace J
open PySem PySem.Spec PyProof.Rows L2 Evl
abbrev sGcd : Stmt := top 40
abbrev sLow : Stmt := top 41
def spGcd : Sp := fun vs H Q _ => ∃ m b : Nat, vs = [.int (m : Int), .int (b : Int)] ∧ RetV (.int (m.gcd b : Nat)) H Q
def spLow : Sp := fun vs H Q _ => ∃ m b : Nat, vs = [.int (m : Int), .int (b : Int)] ∧ b ≠ 0 ∧ b ≤ 100000 ∧ RetL ((Dr05.fraction (mkRat (m : Int) b)).map V.int) H Q
section
variable {P : Program} {w : World} {K : PySem.W.Frag} {mg : Str → Option Value} {base : Heap}
theorem scGcd : FnScope ["one", "other", "greater", "lesser", "rest"] ["one", "other"] (defScope sGcd) := ⟨rfl, rfl, rfl, by decide +kernel, rfl, by decide +kernel, by decide +kernel⟩
theorem ok_gcd (F : DefAt K mg "greatest_divisor" sGcd ["one", "other"]) : Cal P w K mg base 1 "greatest_divisor" spGcd := by
  refine F.cal scGcd (fun vs H Q E h => ?_) (fun f cdv A outer s H vs Q E hr h => ⟨_, pss_cons (ps_set (i := 2) scGcd.nd rfl (Or.inl rfl) (pv 0)) (pss_cons (ps_set (i := 3) scGcd.nd rfl (Or.inl rfl) (pv 1))
    (pss_cons (ps_while PassesOwn.never (pt_cmpR op_gt (pv 3) pe_int (nomark _)) (pss_cons (ps_set (i := 4) scGcd.nd rfl (Or.inl rfl) (pe_op op_modN (pv 2) (pv 3))) (pss_cons (ps_set (i := 2) scGcd.nd rfl (Or.inl rfl) (pv 3)) (pss_one (ps_set (i := 3) scGcd.nd rfl (Or.inl rfl) (pv 4))))))
    (pss_one (ps_ret (pv 2))))), ?_⟩)
  · obtain ⟨m, b, rfl, _⟩ := h
    rfl
  · obtain ⟨m, b, rfl, k⟩ := h
    refine q_asg (ev_var rfl) fun H1 e1 => q_asg (ev_var rfl) fun H2 e2 => ?_
    refine q_while (fun n σ' H' => ∃ (x : Nat) (u4 : Option V), σ' = [some (.int (m : Int)), some (.int (b : Int)), some (.int (x : Int)), some (.int (n : Int)), u4] ∧ x.gcd n = m.gcd b ∧ Ex H H') b ⟨m, none, rfl, rfl, e1.trans e2⟩ ?_
    rintro n σ' H' ⟨x, u4, rfl, hg, eH⟩
    refine ⟨decide (0 < n), et_is (et_test (ev_op (ev_var rfl) ev_c rv_I0)) (dec_gt n 0), fun hp H3 e3 => ?_, fun hz H3 e3 => ?_⟩
    · have hp := of_decide_eq_true hp
      refine ⟨fun σ2 H2 => ∃ n', n' < n ∧ ∃ (x : Nat) (u4 : Option V), σ2 = [some (.int (m : Int)), some (.int (b : Int)), some (.int (x : Int)), some (.int (n' : Int)), u4] ∧ x.gcd n' = m.gcd b ∧ Ex H H2, fun σ2 H2 h => h, ?_⟩
      refine q_asg (v := .int ((x % n : Nat) : Int)) (ev_is (ev_op (ev_var rfl) (ev_var rfl) (rv_I (by omega))) ?_) fun H4 e4 => ?_
      · rw [Int.fmod_eq_emod_of_nonneg _ (by omega), Int.natCast_emod]
      · refine q_asg (ev_var rfl) fun H5 e5 => s_asg (ev_var rfl) fun H6 e6 => ⟨x % n, Nat.mod_lt _ hp, n, _, rfl, ?_, (((eH.trans e3).trans e4).trans e5).trans e6⟩
        rw [← hg, Nat.gcd_comm x n, Nat.gcd_rec n x, Nat.gcd_comm]
    · have hz := of_decide_eq_false hz
      have e : n = 0 := by omega
      subst e
      rw [Nat.gcd_zero_right] at hg
      subst hg
      exact s_ret (ev_var rfl) fun H4 e4 => k H4 ((eH.trans e3).trans e4)
theorem scLow : FnScope ["above", "below", "divisor"] ["above", "below"] (defScope sLow) := ⟨rfl, rfl, rfl, by decide +kernel, rfl, by decide +kernel, by decide +kernel⟩
theorem ok_low (F : DefAt K mg "lowest_terms" sLow ["above", "below"]) (cG : Cal P w K mg base 1 "greatest_divisor" spGcd) : Cal P w K mg base 2 "lowest_terms" spLow := by
  refine F.cal scLow (fun vs H Q E h => ?_) (fun f cdv A outer s H vs Q E hr h => ⟨_, pss_cons (ps_set (i := 2) scLow.nd rfl (Or.inl rfl) (pe_c cG hr (by decide) (by rfl) (pa_cons (pv 0) (pa_cons (pv 1) pa_nil))))
    (pss_one (ps_ret (pe_lst (pa_cons (pe_op op_fdivN (pv 0) (pv 2)) (pa_cons (pe_op op_fdivN (pv 1) (pv 2)) pa_nil))))), ?_⟩)
  · obtain ⟨m, b, rfl, _⟩ := h
    rfl
  · obtain ⟨m, b, rfl, hb, hb2, k⟩ := h
    refine q_asg (v := .int (m.gcd b : Nat)) (ev_call (ea_cons (ev_var rfl) (ea_cons (ev_var rfl) ea_nil)) fun H1 e1 Q1 q1 E1 => ⟨m, b, rfl, q1⟩) fun H1 e1 => ?_
    have hg : 0 < m.gcd b := Nat.gcd_pos_of_pos_right m (by omega)
    have hg2 : m.gcd b ≤ b := Nat.gcd_le_right m (by omega)
    rw [JM.fraction_two m hb] at k
    refine s_retL (el_lst (vs := [.int ((m / m.gcd b : Nat) : Int), .int ((b / m.gcd b : Nat) : Int)]) (ea_cons (ev_is (ev_op (ev_var rfl) (ev_var rfl) (rv_I ⟨by omega, by omega⟩)) ?_) (ea_cons (ev_is (ev_op (ev_var rfl) (ev_var rfl) (rv_I ⟨by omega, by omega⟩)) ?_) ea_nil)) (by show 2 ≤ 100000; decide)) fun p H2 hp e2 h2 => k p H2 (fresh_back e1 hp) (e1.trans e2) h2
    · rw [Int.fdiv_eq_ediv_of_nonneg _ (by omega), Int.natCast_ediv]
    · rw [Int.fdiv_eq_ediv_of_nonneg _ (by omega), Int.natCast_ediv]
end
end J
/-! JQuest: times, steps, lacks, spare, money, jobs of jobtools/questions.py -/
namespace J
open PySem PySem.Spec PyProof.Rows L2 Evl
open JM (bit costL doneB payL scale scaled)
open Dr05 (Shop Job)
abbrev sTimes : Stmt := top 54
abbrev sSteps : Stmt := top 55
abbrev sLacks : Stmt := top 56
abbrev sSpare : Stmt := top 57
abbrev sMoney : Stmt := top 58
abbrev sJobs : Stmt := top 60
theorem most_nat (s : Shop) (wf : JM.WF s) (a b : Nat) : ∃ M : Nat, Dr05.most s a b (Dr05.sets s) = (M : Int) := by
  have z := (JM.most_is s a b (JM.sets_ne s)).2 0 (List.mem_range.mpr (Nat.two_pow_pos _))
  rw [JM.gain_is, JM.payL_zero wf.n0, JM.costL_zero] at z
  exact ⟨(Dr05.most s a b (Dr05.sets s)).toNat, by simp at z; omega⟩
theorem best_most {s : Shop} {a b x : Nat} {r : List Nat} (e : Dr05.best s a b = x :: r) : Dr05.gain s a b x = Dr05.most s a b (Dr05.sets s) := by
  have hx : x ∈ Dr05.best s a b := by rw [e]; exact List.mem_cons_self
  exact beq_iff_eq.mp (List.mem_filter.mp hx).2
/-- two arguments, the second a new tuple -/
theorem ep_call2U {σ : L2.St} {H : Hp} {t1 t2 : TE} {x : V} {xs : List V} {sp : Sp} {E : XK} {R : V → Hp → Prop} (h1 : Ev t1 σ H x) (h2 : EvU t2 σ H xs) (hs : ∀ p H1, Ex H H1 → H1 p = some (.tup xs) → ∀ Q : VK, (∀ v H2, Ex H1 H2 → R v H2 → Q v H2) → sp [x, .ref p] H1 Q E) : EvP (tCall sp [] E (tCons t1 (tCons t2 tNil))) σ H R :=
  fun H0 e Q q => h1 H0 e _ fun H1 e1 => h2 H1 (e.trans e1) _ fun p H2 hp e2 hl => hs p H2 ((e.trans e1).trans e2) hl Q fun v H3 e3 r => q v H3 ((e1.trans e2).trans e3) r
section
variable {P : Program} {w : World} {K : PySem.W.Frag} {mg : Str → Option Value} {base : Heap} {C : Addr}
theorem scTimes : FnScope ["shop", "numbers", "above", "below", "costs", "jobs", "sets", "left"] ["shop", "numbers"] (defScope sTimes) := ⟨rfl, rfl, rfl, by decide +kernel, rfl, by decide +kernel, by decide +kernel⟩
theorem ok_times (F : DefAt K mg "tell_times" sTimes ["shop", "numbers"]) (T : Cl K C) (G : Csts mg) (cC : Cal P w K mg base 1 "costs_at" (spCostsAt K)) (cJ : Cal P w K mg base 1 "jobs_at" spJobsAt) (cW : Cal P w K mg base 7 "worth_having" (spWorth K)) (cL : Cal P w K mg base 4 "left_by" (spLeft K))
    (cF : Cal P w K mg base 2 "lowest_terms" spLow) (cA : Cal P w K mg base 1 "what_all_have" (spAllHave K)) (cO : Cal P w K mg base 1 "what_some_has" (spSomeHas K)) : Cal P w K mg base 8 "tell_times" (spH K C 7) := by
  refine F.cal scTimes (fun vs H Q E h => spH_len h) (fun f cdv A outer s H vs Q E hr h => ⟨_, pss_cons (ps_set (i := 2) scTimes.nd rfl (Or.inl rfl) (pe_ix ix_list (pv 1) pe_int (fun _ _ => rfl)))
    (pss_cons (ps_set (i := 3) scTimes.nd rfl (Or.inl rfl) (pe_ix ix_list (pv 1) pe_int (fun _ _ => rfl)))
    (pss_cons (ps_if (PW.pt (pw_or (pt_cmpR op_eq (pv 3) pe_int (nomark _)) (pw_or (pt_cmpR op_gt (pv 2) (pe_gc G.term (by rfl)) (nomark _)) (pw_or1 (pt_cmpR op_gt (pv 3) (pe_gc G.term (by rfl)) (nomark _)))))) (pss_one (ps_ret (pe_lst (pa_cons (pe_gc G.taken (by rfl)) pa_nil)))) pss_nil)
    (pss_cons (ps_set (i := 4) scTimes.nd rfl (Or.inl rfl) (pe_c cC hr (by decide) (by rfl) (pa_cons (pe_fld (pv 0) rfl) (pa_cons (pe_tup (pa_cons (pv 2) (pa_cons (pv 3) pa_nil))) pa_nil))))
    (pss_cons (ps_set (i := 5) scTimes.nd rfl (Or.inl rfl) (pe_c cJ hr (by decide) (by rfl) (pa_cons (pe_fld (pv 0) rfl) (pa_cons (pe_tup (pa_cons (pv 2) (pa_cons (pv 3) pa_nil))) pa_nil))))
    (pss_cons (ps_set (i := 6) scTimes.nd rfl (Or.inl rfl) (pe_c cW hr (by decide) (by rfl) (pa_cons (pv 4) (pa_cons (pv 5) pa_nil))))
    (pss_cons (ps_set (i := 7) scTimes.nd rfl (Or.inl rfl) (pe_c cL hr (by decide) (by rfl) (pa_cons (pv 4) (pa_cons (pv 5) (pa_cons (pe_ix ix_list (pv 6) pe_int (fun _ _ => rfl)) pa_nil)))))
    (pss_one (ps_ret (pe_op op_cat (pe_c cF hr (by decide) (by rfl) (pa_cons (pv 7) (pa_cons (pv 3) pa_nil))) (pe_lst (pa_cons (pe_c cA hr (by decide) (by rfl) (pa_cons (pv 6) pa_nil)) (pa_cons (pe_c cO hr (by decide) (by rfl) (pa_cons (pv 6) pa_nil)) pa_nil)))))))))))), ?_⟩)
  obtain ⟨a, b, c, d, dx, s, ns, cl, rfl, S, wf, hb, hcl, k⟩ := h
  obtain ⟨m, n, rfl, rfl⟩ := JM.in7 hcl
  have c5 := wf.c5
  have j5 := wf.j5
  refine q_asg (ev_op (ev_var rfl) ev_c (rv_ixL hb (v := .int (m : Int)) (atI_nat (j := 0) rfl))) fun H1 e1 => ?_
  refine q_asg (ev_op (ev_var rfl) ev_c (rv_ixL (ex_l e1 hb) (v := .int (n : Int)) (atI_nat (j := 1) rfl))) fun H2 e2 => ?_
  have e02 := e1.trans e2
  refine q_when (et_or (a := n == 0) (et_is (et_test (ev_op (ev_var rfl) ev_c (rv_eq rfl))) (dec_nat n 0)) fun _ => et_or (a := decide (1000 < m)) (et_is (et_test (ev_op (ev_var rfl) ev_c rv_I0)) (dec_gt m 1000)) fun _ => (et_is (b := decide (1000 < n)) (et_test (ev_op (ev_var rfl) ev_c rv_I0)) (dec_gt n 1000))) (fun e H3 e3 => ?_) (fun e H3 e3 => ?_)
  · have k' : RetC C H a c d dx (s, [-1]) Q := by
      have q : Dr05.step s (.times m n) = (s, [-1]) := by
        unfold Dr05.step
        dsimp only
        rw [if_pos]
        simp only [Bool.or_eq_true, beq_iff_eq, decide_eq_true_eq] at e
        exact e
      rw [q] at k
      exact k
    exact s_retL (el_lst (ea_cons ev_c ea_nil) (by show 1 ≤ 100000; decide)) fun p H4 hp e4 h4 => k'.asks S p H4 (fresh_back (e02.trans e3) hp) ((e02.trans e3).trans e4) h4
  · simp only [Bool.or_eq_false_iff, beq_eq_false_iff_ne, decide_eq_false_iff_not] at e
    obtain ⟨n0, m1, n1⟩ := e
    have q : Dr05.step s (.times m n) = (s, Dr05.fraction ((Dr05.most s m n (Dr05.sets s) : Rat) / (n : Rat)) ++ Dr05.ints [Dr05.least s m n, Dr05.greatest s m n]) := by
      unfold Dr05.step
      dsimp only
      rw [if_neg]
      omega
    rw [q] at k
    have e03 := e02.trans e3
    have S3 := S.ex e03
    refine q_asgP (R := fun v H' => ∃ p, v = .ref p ∧ H' p = some (.lst (nums (s.costs.map fun c => c * m)))) (ep_call2U (xs := [.int (m : Int), .int (n : Int)]) (ev_costs T S3 (ev_var rfl)) (eu_tup (ea_cons (ev_var rfl) (ea_cons (ev_var rfl) ea_nil)) (by show 2 ≤ 100000; decide)) fun p H4 e4 h4 Q4 q4 =>
      ⟨c, p, s.costs, m, n, rfl, sq_of (S3.ex e4).cs, by omega, wf.cle, h4, fun p' H5 _ e5 h5 => q4 _ H5 e5 ⟨p', rfl, h5⟩⟩) fun v H4 e4 ⟨pc, ev, hpc⟩ => ?_
    subst ev
    have S4 := S3.ex e4
    refine q_asgP (R := fun v H' => ∃ p, v = .ref p ∧ JobsAt H' p (s.jobs.map (scale n))) (ep_call2U (xs := [.int (m : Int), .int (n : Int)]) (ev_jobs T S4 (ev_var rfl)) (eu_tup (ea_cons (ev_var rfl) (ea_cons (ev_var rfl) ea_nil)) (by show 2 ≤ 100000; decide)) fun p H5 e5 h5 Q5 q5 =>
      ⟨d, p, s.jobs, m, n, rfl, (S4.ex e5).js, wf.nd, by omega, wf.pl, h5, fun p' H6 _ e6 h6 => q5 _ H6 e6 ⟨p', rfl, h6⟩⟩) fun v H5 e5 ⟨pj, ev, hpj⟩ => ?_
    subst ev
    obtain ⟨x, r, eb⟩ := JM.best_cons s m n
    have hpc5 := e5 _ _ hpc
    refine q_asgL (xs := nums (x :: r)) (el_call (ea_cons (ev_var rfl) (ea_cons (ev_var rfl) ea_nil)) fun H6 e6 Q6 q6 E6 => ⟨pc, pj, scaled s m n, rfl, sq_of (e6 _ _ hpc5), hpj.ex e6, JM.sz_scaled m n wf.sz, by rw [JM.best_scaled, eb]; exact q6⟩) fun ps H6 hps e6 h6 => ?_
    obtain ⟨M, hM⟩ := most_nat s wf m n
    refine q_asg (v := .int (M : Int)) (ev_call (ea_cons (ev_var rfl) (ea_cons (ev_var rfl) (ea_cons (ev_op (ev_var rfl) ev_c (rv_ixL (sq_of h6) (v := .int (x : Int)) (atI_nat (j := 0) rfl))) ea_nil))) fun H7 e7 Q7 q7 E7 =>
      ⟨pc, pj, scaled s m n, x, rfl, sq_of ((e6.trans e7) _ _ hpc5), hpj.ex (e6.trans e7), JM.sz_scaled m n wf.sz, by rw [JM.left_scaled, best_most eb, hM]; exact q7⟩) fun H7 e7 => ?_
    have h7 := e7 _ _ h6
    have e07 := (((e03.trans e4).trans e5).trans e6).trans e7
    refine s_retL (el_catNN (xs := (Dr05.fraction (mkRat (M : Int) n)).map V.int) (el_call (ea_cons (ev_var rfl) (ea_cons (ev_var rfl) ea_nil)) fun H8 e8 Q8 q8 E8 => ⟨M, n, rfl, n0, by omega, q8⟩) (el_lst (ea_cons (ev_call (z := .int ((x :: r).foldl Nat.land x : Nat)) (ea_cons (ev_var rfl) ea_nil) fun H8 e8 Q8 q8 E8 => ⟨ps, x, r, rfl, sq_of (e8 _ _ h7), q8⟩)
      (ea_cons (ev_call (z := .int ((x :: r).foldl Nat.lor 0 : Nat)) (ea_cons (ev_var rfl) ea_nil) fun H8 e8 Q8 q8 E8 => ⟨ps, x :: r, rfl, sq_of (e8 _ _ h7), q8⟩) ea_nil)) (by show 2 ≤ 100000; decide)) (by show 2 + 2 ≤ 100000; decide)) fun p H8 hp e8 h8 => k.one S ?_ p H8 (fresh_back e07 hp) (e07.trans e8) h8
    rw [hM, JM.least_fold s m n eb, JM.greatest_eq, eb]
    have er : mkRat (M : Int) n = ((M : Int) : Rat) / (n : Rat) := by rw [Rat.mkRat_eq_div]
    rw [er, List.map_append]
    rfl
theorem scSteps : FnScope ["shop", "numbers", "found", "told", "factor", "least"] ["shop", "numbers"] (defScope sSteps) := ⟨rfl, rfl, rfl, by decide +kernel, rfl, by decide +kernel, by decide +kernel⟩
def toldOf (l : List Fnd) : List Int := l.flatMap fun y => Dr05.fraction (mkRat (y.1.1 : Int) y.1.2) ++ [(y.2 : Int)]
theorem told_len (l : List Fnd) : (toldOf l).length = 3 * l.length := by
  induction l with
  | nil => rfl
  | cons x l ih =>
    unfold toldOf at ih ⊢
    rw [List.flatMap_cons, List.length_append, ih, List.length_cons]
    show 3 + _ = _
    omega
theorem told_more (l : List Fnd) (y : Fnd) : toldOf (l ++ [y]) = toldOf l ++ (Dr05.fraction (mkRat (y.1.1 : Int) y.1.2) ++ [(y.2 : Int)]) := by
  unfold toldOf
  rw [List.flatMap_append, List.flatMap_singleton]
theorem ok_steps (F : DefAt K mg "tell_steps" sSteps ["shop", "numbers"]) (B : Blt mg) (T : Cl K C) (cS : Cal P w K mg base 9 "least_sets" (spLeastSets K)) (cF : Cal P w K mg base 2 "lowest_terms" spLow) : Cal P w K mg base 10 "tell_steps" (spH K C 8) := by
  refine F.cal scSteps (fun vs H Q E h => spH_len h) (fun f cdv A outer s H vs Q E hr h => ⟨_, pss_cons (ps_set (i := 2) scSteps.nd rfl (Or.inl rfl) (pe_c cS hr (by decide) (by rfl) (pa_cons (pe_fld (pv 0) rfl) (pa_cons (pe_fld (pv 0) rfl) pa_nil))))
    (pss_cons (ps_set (i := 3) scSteps.nd rfl (Or.inl rfl) (pe_lst (pa_cons (pe_ix ix_tup (pe_ix ix_list (pv 2) pe_int (fun _ _ => rfl)) pe_int (fun _ _ => rfl)) (pa_cons (pe_op op_sub (pe_callB call_len_seq (by rfl) B.len PySem.boot_len (pa_cons (pv 2) pa_nil)) pe_int) pa_nil))))
    (pss_cons (ps_for PassesOwn.never rfl (pi_list (pe_slice sl_list (pv 2) (po_some pe_int) po_none)) (pg_tup rfl (pgs_cons (pg_name (i := 4) scSteps.nd rfl (Or.inl rfl)) (pgs_cons (pg_name (i := 5) scSteps.nd rfl (Or.inl rfl)) pgs_nil)))
      (pss_cons (ps_expr (pe_bm PySem.F.plainAttrs_list PySem.F.slot_list_extend PySem.F.type_list_extend mt_extend (pv 3) (pa_cons (pe_c cF hr (by decide) (by rfl) (pa_cons (pe_ix ix_tup (pv 4) pe_int (fun _ _ => rfl)) (pa_cons (pe_ix ix_tup (pv 4) pe_int (fun _ _ => rfl)) pa_nil))) pa_nil)))
      (pss_one (ps_expr (pe_bm PySem.F.plainAttrs_list PySem.F.slot_list_append PySem.F.type_list_append mt_append (pv 3) (pa_cons (pv 5) pa_nil))))))
    (pss_one (ps_ret (pv 3))))), ?_⟩)
  obtain ⟨a, b, c, d, dx, s, ns, cl, rfl, S, wf, hb, hcl, k⟩ := h
  obtain ⟨rfl, rfl⟩ := JM.in8 hcl
  refine q_asgP (R := fun v H' => ∃ p xs l, v = .ref p ∧ H' p = some (.lst xs) ∧ Paired (FndV H') xs (((0, 1), Dr05.start s) :: l) ∧ l.map stepOf = Dr05.steps s ∧ (∀ y ∈ l, y.1.2 ≠ 0 ∧ y.1.2 ≤ 5000) ∧ l.length ≤ 5) (ep_call (RA := fun vs _ => vs = [.ref c, .ref d]) (fun H6 e6 Q6 q6 => (ea_cons (ev_costs T (S.ex e6) (ev_var rfl)) (ea_cons (ev_jobs T (S.ex e6) (ev_var rfl)) ea_nil)) H6 (Ex.refl _) _ fun H7 e7 => q6 _ H7 e7 rfl) ?_) fun v H1 e1 ⟨p, xs, l, ev, hp, pr, hst, hy, hl5⟩ => ?_
  · rintro vs H1 e1 rfl Q1 q1
    exact ⟨c, d, s, rfl, sq_of (S.ex e1).cs, (S.ex e1).js, wf, fun p H2 xs l _ e2 h2 pr h3 h4 h5 => q1 _ H2 e2 ⟨p, xs, l, rfl, h2, pr, h3, h4, h5⟩⟩
  · subst ev
    obtain ⟨x0, xr, rfl, ⟨t0, f0, rfl, ht0, hf0⟩, prr⟩ : ∃ x0 xr, xs = x0 :: xr ∧ FndV H1 x0 ((0, 1), Dr05.start s) ∧ Paired (FndV H1) xr l := by
      cases pr with
      | cons r t => exact ⟨_, _, rfl, r, t⟩
    have lr : xr.length = l.length := paired_len prr
    refine q_asgL (xs := [.int (Dr05.start s : Nat), .int (l.length : Nat)]) (el_lst (ea_cons (ev_op (ev_op (ev_var rfl) ev_c (rv_ixL (sq_of hp) (v := .ref t0) (atI_nat (j := 0) rfl))) ev_c (rv_ixT (st_of ht0) (atI_nat (j := 1) rfl))) (ea_cons (ev_is (ev_op (ev_len (ev_var rfl) (sq_of hp)) ev_c rv_I0) ?_) ea_nil)) (by show 2 ≤ 100000; decide)) fun tl H2 htl e2 h2 => ?_
    · rw [List.length_cons, lr]
      refine congrArg V.int ?_
      omega
    · have e02 := e1.trans e2
      have htl0 : H tl = none := fresh_back e1 htl
      have ecut : cutV (V.ref t0 :: xr) (some ((1 : Nat) : Int)) none = xr := by
        unfold cutV
        rw [HT.sIx_nat, List.length_cons, Nat.min_eq_left (by omega)]
        have z : HT.sIx (xr.length + 1) (xr.length + 1) none = xr.length + 1 := rfl
        rw [z]
        simp
      refine q_forNL (xs := xr) (el_is (el_sl (ev_var rfl) (eo_some (i := ((1 : Nat) : Int)) ev_c) eo_none (sq_of (e2 _ _ hp))) ecut) (fun q i σ' H' => ∃ u4 u5, σ' = [some (.ref a), some (.ref b), some (.ref p), some (.ref tl), u4, u5] ∧ H' q = some (.lst xr) ∧ q ≠ tl ∧ Ex H H' ∧ H' tl = some (.lst (([(Dr05.start s : Int), (l.length : Int)] ++ toldOf (l.take i)).map V.int)) ∧ Paired (FndV H') xr l)
        (fun q H3 hq e3 h3 => ⟨none, none, rfl, h3, (ne_of_none h2 hq).symm, e02.trans e3, e3 _ _ h2, fnd_ex (fun b' ys h' => (e2.trans e3) _ _ h') prr⟩) (fun q i σ' H' _ ⟨_, _, _, h, _⟩ => sq_of h) (fun q i x σ' H' hx ⟨u4, u5, eσ, hq, hqt, eH, htl', pr'⟩ => ?_) (fun q σ' H' ⟨u4, u5, eσ, hq, hqt, eH, htl', pr'⟩ => ?_)
      · subst eσ
        obtain ⟨y, hy1, t1, f1, rfl, ht1, hf1⟩ := paired_get pr' hx
        have hym := hy y (List.mem_of_getElem? hy1)
        have hi : i < l.length := (List.getElem?_eq_some_iff.mp hy1).1
        refine ⟨t1, [.ref f1, .int (y.2 : Int)], rfl, st_of ht1, rfl, _, _, rfl, _, _, rfl, rfl, ?_⟩
        have tlen := told_len (l.take i)
        rw [List.length_take] at tlen
        refine q_extNL (ys := (Dr05.fraction (mkRat (y.1.1 : Int) y.1.2)).map V.int) htl' (ev_var rfl) (el_call (ea_cons (ev_op (ev_var rfl) ev_c (rv_ixT (st_of hf1) (atI_nat (j := 0) rfl))) (ea_cons (ev_op (ev_var rfl) ev_c (rv_ixT (st_of hf1) (atI_nat (j := 1) rfl))) ea_nil)) fun H5 e5 Q5 q5 E5 => ⟨y.1.1, y.1.2, rfl, hym.1, by omega, q5⟩)
          (by rw [List.length_map, List.length_append, tlen]; show 2 + _ + 2 ≤ 100000; omega) fun H5 e5 => ?_
        refine s_app upd_same (ev_var rfl) (ev_var rfl) (by rw [List.length_append, List.length_map, List.length_append, tlen]; show 2 + _ + 2 < 100000; omega) fun H6 e6 => ?_
        have htl5 := e5 _ _ htl'
        refine ⟨some (.ref f1), some (.int (y.2 : Int)), rfl, ?_, hqt, ?_, ?_, ?_⟩
        · rw [upd_ne hqt]
          exact e6 _ _ (by rw [upd_ne hqt]; exact e5 _ _ hq)
        · exact ((((eH.trans e5).mut htl0).trans e6).mut htl0)
        · rw [upd_same]
          have ht : l.take (i + 1) = l.take i ++ [y] := by rw [List.take_add_one, hy1]; rfl
          rw [ht, told_more]
          simp only [List.map_append, List.map_cons, List.map_nil, List.append_assoc]
        · refine fnd_ex (fun b' ys h' => ?_) pr'
          rw [upd_ne (ne_of h' htl' (by intro z; cases z))]
          refine e6 _ _ ?_
          rw [upd_ne (ne_of h' htl' (by intro z; cases z))]
          exact e5 _ _ h'
      · subst eσ
        rw [lr, List.take_length] at htl'
        refine s_ret (ev_var rfl) fun H4 e4 => k.one S ?_ tl H4 htl0 (eH.trans e4) (e4 _ _ htl')
        refine congrArg (List.map V.int) ?_
        rw [← hst, List.length_map]
        show _ ++ (l.map stepOf).flatMap _ = _
        rw [List.flatMap_map]
        rfl
theorem scLacks : FnScope ["shop", "numbers", "number", "sets", "doing", "tools"] ["shop", "numbers"] (defScope sLacks) := ⟨rfl, rfl, rfl, by decide +kernel, rfl, by decide +kernel, by decide +kernel⟩
theorem ok_lacks (F : DefAt K mg "tell_lacks" sLacks ["shop", "numbers"]) (T : Cl K C) (G : Csts mg) (cA : Cal P w K mg base 2 "all_sets" (spAllSets K)) (cH : Cal P w K mg base 1 "has_all" spHasAll) (cM : Cal P w K mg base 5 "most_left" (spMost K)) : Cal P w K mg base 6 "tell_lacks" (spH K C 9) := by
  refine F.cal scLacks (fun vs H Q E h => spH_len h) (fun f cdv A outer s H vs Q E hr h => ⟨_, pss_cons (ps_set (i := 2) scLacks.nd rfl (Or.inr rfl) (pe_ix ix_list (pv 1) pe_int (fun _ _ => rfl)))
    (pss_cons (ps_if (pt_cmp (pc_dnotin (hu_of hr) (pv 2) (pe_fld (pv 0) rfl))) (pss_one (ps_ret (pe_lst (pa_cons (pe_gc G.noJob (by rfl)) pa_nil)))) pss_nil)
    (pss_cons (ps_set (i := 3) scLacks.nd rfl (Or.inl rfl) (pe_c cA hr (by decide) (by rfl) (pa_cons (pe_fld (pv 0) rfl) pa_nil)))
    (pss_cons (ps_setLc (i := 4) (own := [("tools", 5)]) (g := gName 5) (tt := tB (tCall spHasAll [] E0 (tCons (tVar 5) (tCons (tOp (rIxT K) (tDGet (tFld K (tVar 0) "jobs") (tVar 2)) (tC (.int 1))) tNil)))) (te := tVar 5)
      (by rfl) scLacks.nd rfl rfl (sw_true rfl rfl rfl (by decide +kernel)) (pi_list (pv 3)) (blkOk_by (own := [("tools", 5)]) (N := ["shop", "numbers", "number", "sets", "doing", "tools"]) (sc := defScope sLacks) (by decide +kernel))
      (fun _ _ _ _ _ => pg_name (i := 5) scLacks.nd rfl (Or.inl rfl)) (fun _ _ _ _ _ => pts_one (pt_val (pe_c cH hr (by decide) (by rfl) (pa_cons (pv 5) (pa_cons (pe_ix ix_tup (pe_dget (hu_of hr) (pe_fld (pv 0) rfl) (pv 2) (fun _ _ => rfl)) pe_int (fun _ _ => rfl)) pa_nil))))) (fun _ _ _ _ _ => pv 5))
    (pss_one (ps_ret (pe_lst (pa_cons (pe_op op_sub (pe_c cM hr (by decide) (by rfl) (pa_cons (pe_fld (pv 0) rfl) (pa_cons (pe_fld (pv 0) rfl) (pa_cons (pv 3) pa_nil)))) (pe_c cM hr (by decide) (by rfl) (pa_cons (pe_fld (pv 0) rfl) (pa_cons (pe_fld (pv 0) rfl) (pa_cons (pv 4) pa_nil))))) pa_nil))))))), ?_⟩)
  obtain ⟨a, b, c, d, dx, s, ns, cl, rfl, S, wf, hb, hcl, k⟩ := h
  obtain ⟨n, rfl, rfl⟩ := JM.in9 hcl
  have e2p : 2 ^ s.costs.length ≤ 2 ^ 5 := Nat.pow_le_pow_right (by decide) wf.c5
  have ls : (Dr05.sets s).length ≤ 32 := by
    unfold Dr05.sets
    rw [List.length_range]
    exact e2p
  refine q_asg (ev_op (ev_var rfl) ev_c (rv_ixL hb (v := .int (n : Int)) (atI_nat (j := 0) rfl))) fun H1 e1 => ?_
  have S1 := S.ex e1
  obtain ⟨kvs, hd, pr⟩ := S1.js
  refine q_when (b := !(Dr05.job? s n).isSome) (et_is (et_B (ev_dnotin (k := Sum.inl (n : Int)) (ev_var rfl) (ev_jobs T S1 (ev_var rfl)) (Rd.of hd))) (by rw [jobs_has pr]; rfl)) (fun e H2 e2 => ?_) (fun e H2 e2 => ?_)
  · rw [Bool.not_eq_true', Option.isSome_eq_false_iff, Option.isNone_iff_eq_none] at e
    have k' : RetC C H a c d dx (s, [-2]) Q := by
      have q : Dr05.step s (.lacks n) = (s, [-2]) := by
        unfold Dr05.step
        dsimp only
        rw [e]
      rw [q] at k
      exact k
    exact s_retL (el_lst (ea_cons ev_c ea_nil) (by show 1 ≤ 100000; decide)) fun p H4 hp e4 h4 => k'.asks S p H4 (fresh_back (e1.trans e2) hp) ((e1.trans e2).trans e4) h4
  · rw [Bool.not_eq_false'] at e
    obtain ⟨j, hj⟩ := Option.isSome_iff_exists.mp e
    have hjm : j ∈ s.jobs := List.mem_of_find?_eq_some hj
    have hjn : j.num = n := by
      have z := List.find?_some hj
      simpa using z
    have k' : RetC C H a c d dx (s, [Dr05.lacks s j]) Q := by
      have q : Dr05.step s (.lacks n) = (s, [Dr05.lacks s j]) := by
        unfold Dr05.step
        dsimp only
        rw [hj]
      rw [q] at k
      exact k
    have e02 := e1.trans e2
    have S2 := S.ex e02
    refine q_asgL (xs := nums (Dr05.sets s)) (el_call (ea_cons (ev_costs T S2 (ev_var rfl)) ea_nil) fun H3 e3 Q3 q3 E3 => ⟨c, nums s.costs, rfl, sq_of (S2.ex e3).cs, by rw [List.length_map]; exact wf.c5, by rw [List.length_map]; exact q3⟩) fun ps H3 hps e3 h3 => ?_
    have S3 := S2.ex e3
    have hd3 := (e2.trans e3) _ _ hd
    have pr3 : Paired (JobKV H3) kvs s.jobs := jobs_ex (fun b xs h => (e2.trans e3) _ _ h) pr
    obtain ⟨t1, v1, v2⟩ := jobs_val pr3 wf.nd j hjm
    rw [hjn] at v1
    have ef : ((Dr05.sets s).filter fun t => t &&& j.needs == j.needs) = (Dr05.sets s).filter fun t => Dr01.meet j.needs t == j.needs := by
      refine List.filter_congr fun t _ => ?_
      show (t &&& j.needs == j.needs) = (Nat.land j.needs t == j.needs)
      have z : Nat.land j.needs t = t &&& j.needs := Nat.and_comm j.needs t
      rw [z]
    refine q_asgL (xs := nums ((Dr05.sets s).filter fun t => t &&& j.needs == j.needs)) (el_is (el_lcL (xs := nums (Dr05.sets s)) (fun i => (Dr05.sets s).getD i 0 &&& j.needs == j.needs) (fun i => V.int ((Dr05.sets s).getD i 0 : Nat)) (ev_var rfl) (sq_of h3) (by rw [List.length_map]; omega) (fun _ => rfl) (fun i x H4 e4 hx => ?_) (fun i x H4 e4 hx _ => ?_)) ?_) fun pd H4 hpd e4 h4 => ?_
    · obtain ⟨rfl, _⟩ := nums_get hx
      exact et_B (ev_call (ea_cons (ev_var rfl) (ea_cons (ev_op (ev_dget (k := Sum.inl (n : Int)) (ev_jobs T (S3.ex e4) (ev_var rfl)) (ev_var rfl) (Rd.of (e4 _ _ hd3)) v1) ev_c (rv_ixT (st_of (e4 _ _ v2)) (atI_nat (j := 1) rfl))) ea_nil)) fun H5 e5 Q5 q5 E5 => ⟨_, j.needs, rfl, q5⟩)
    · obtain ⟨rfl, _⟩ := nums_get hx
      exact ev_var rfl
    · rw [List.length_map]
      exact given_nums (Dr05.sets s) fun t => t &&& j.needs == j.needs
    · have S4 := S3.ex e4
      have e04 := (e02.trans e3).trans e4
      have lne : ((Dr05.sets s).filter fun t => t &&& j.needs == j.needs) ≠ [] := by
        refine List.ne_nil_of_mem (a := 2 ^ s.costs.length - 1) (List.mem_filter.mpr ⟨List.mem_range.mpr (by have := Nat.two_pow_pos s.costs.length; omega), ?_⟩)
        have z := JM.all_land (wf.nl j hjm)
        have z : (2 ^ s.costs.length - 1) &&& j.needs = j.needs := z
        rw [z]
        exact beq_self_eq_true _
      refine s_retL (el_lst (vs := [.int (Dr05.lacks s j)]) (ea_cons (ev_is (ev_op (ev_call (z := .int (Dr05.most s 1 1 (Dr05.sets s))) (ea_cons (ev_costs T S4 (ev_var rfl)) (ea_cons (ev_jobs T S4 (ev_var rfl)) (ea_cons (ev_var rfl) ea_nil))) fun H5 e5 Q5 q5 E5 => ⟨c, d, ps, s, Dr05.sets s, rfl, sq_of (S4.ex e5).cs, (S4.ex e5).js, wf.sz, sq_of ((e4.trans e5) _ _ h3), JM.sets_ne s, by omega, q5⟩)
        (ev_call (z := .int (Dr05.most s 1 1 ((Dr05.sets s).filter fun t => t &&& j.needs == j.needs))) (ea_cons (ev_costs T S4 (ev_var rfl)) (ea_cons (ev_jobs T S4 (ev_var rfl)) (ea_cons (ev_var rfl) ea_nil))) fun H5 e5 Q5 q5 E5 => ⟨c, d, pd, s, _, rfl, sq_of (S4.ex e5).cs, (S4.ex e5).js, wf.sz, sq_of (e5 _ _ h4), lne, Nat.le_trans (List.length_filter_le _ _) (by omega), q5⟩) rv_I0) ?_) ea_nil) (by show 1 ≤ 100000; decide)) fun p H5 hp e5 h5 => k'.asks S p H5 (fresh_back e04 hp) (e04.trans e5) h5
      rw [ef]
      rfl
theorem one_has (t i : Nat) : (t &&& 2 ^ i == 2 ^ i) = Dr01.has t (i + 1) := by
  rw [JM.has_test]
  cases h : t.testBit i with
  | true =>
    rw [beq_iff_eq]
    apply Nat.eq_of_testBit_eq
    intro j
    rw [Nat.testBit_and, Nat.testBit_two_pow]
    by_cases hj : i = j
    · subst hj
      rw [h]
      rfl
    · rw [decide_eq_false hj, Bool.and_false]
  | false =>
    rw [beq_eq_false_iff_ne]
    intro z
    have y := congrArg (fun n => Nat.testBit n i) z
    simp only [Nat.testBit_and, h, Nat.testBit_two_pow_self, Bool.false_and] at y
    cases y
theorem scSpare : FnScope ["shop", "numbers", "tool", "alone", "having", "lacking", "tools"] ["shop", "numbers"] (defScope sSpare) := ⟨rfl, rfl, rfl, by decide +kernel, rfl, by decide +kernel, by decide +kernel⟩
theorem ok_spare (F : DefAt K mg "tell_spare" sSpare ["shop", "numbers"]) (T : Cl K C) (G : Csts mg) (cI : Cal P w K mg base 1 "is_tool" (spIsTool K)) (c1 : Cal P w K mg base 1 "set_of_one" spOne) (cA : Cal P w K mg base 2 "all_sets" (spAllSets K)) (cH : Cal P w K mg base 1 "has_all" spHasAll) (cM : Cal P w K mg base 5 "most_left" (spMost K)) :
    Cal P w K mg base 6 "tell_spare" (spH K C 10) := by
  refine F.cal scSpare (fun vs H Q E h => spH_len h) (fun f cdv A outer s H vs Q E hr h => ⟨_, pss_cons (ps_set (i := 2) scSpare.nd rfl (Or.inl rfl) (pe_ix ix_list (pv 1) pe_int (fun _ _ => rfl)))
    (pss_cons (ps_if (pt_not (pt_val (pe_c cI hr (by decide) (by rfl) (pa_cons (pe_fld (pv 0) rfl) (pa_cons (pv 2) pa_nil))))) (pss_one (ps_ret (pe_lst (pa_cons (pe_gc G.taken (by rfl)) pa_nil)))) pss_nil)
    (pss_cons (ps_set (i := 3) scSpare.nd rfl (Or.inr rfl) (pe_c c1 hr (by decide) (by rfl) (pa_cons (pv 2) pa_nil)))
    (pss_cons (ps_setLc (i := 4) (own := [("tools", 6)]) (g := gName 6) (tt := tB (tCall spHasAll [] E0 (tCons (tVar 6) (tCons (tVar 3) tNil)))) (te := tVar 6)
      (by rfl) scSpare.nd rfl rfl (sw_true rfl rfl rfl (by decide +kernel)) (pi_list (pe_c cA hr (by decide) (by rfl) (pa_cons (pe_fld (pv 0) rfl) pa_nil))) (blkOk_by (own := [("tools", 6)]) (N := ["shop", "numbers", "tool", "alone", "having", "lacking", "tools"]) (sc := defScope sSpare) (by decide +kernel))
      (fun _ _ _ _ _ => pg_name (i := 6) scSpare.nd rfl (Or.inl rfl)) (fun _ _ _ _ _ => pts_one (pt_val (pe_c cH hr (by decide) (by rfl) (pa_cons (pv 6) (pa_cons (pv 3) pa_nil))))) (fun _ _ _ _ _ => pv 6))
    (pss_cons (ps_setLc (i := 5) (own := [("tools", 6)]) (g := gName 6) (tt := tNot (tB (tCall spHasAll [] E0 (tCons (tVar 6) (tCons (tVar 3) tNil))))) (te := tVar 6)
      (by rfl) scSpare.nd rfl rfl (sw_true rfl rfl rfl (by decide +kernel)) (pi_list (pe_c cA hr (by decide) (by rfl) (pa_cons (pe_fld (pv 0) rfl) pa_nil))) (blkOk_by (own := [("tools", 6)]) (N := ["shop", "numbers", "tool", "alone", "having", "lacking", "tools"]) (sc := defScope sSpare) (by decide +kernel))
      (fun _ _ _ _ _ => pg_name (i := 6) scSpare.nd rfl (Or.inl rfl)) (fun _ _ _ _ _ => pts_one (pt_not (pt_val (pe_c cH hr (by decide) (by rfl) (pa_cons (pv 6) (pa_cons (pv 3) pa_nil)))))) (fun _ _ _ _ _ => pv 6))
    (pss_one (ps_ret (pe_lst (pa_cons pe_int (pa_cons (pe_op op_sub (pe_c cM hr (by decide) (by rfl) (pa_cons (pe_fld (pv 0) rfl) (pa_cons (pe_fld (pv 0) rfl) (pa_cons (pv 4) pa_nil)))) (pe_c cM hr (by decide) (by rfl) (pa_cons (pe_fld (pv 0) rfl) (pa_cons (pe_fld (pv 0) rfl) (pa_cons (pv 5) pa_nil))))) pa_nil))))))))), ?_⟩)
  obtain ⟨a, b, c, d, dx, s, ns, cl, rfl, S, wf, hb, hcl, k⟩ := h
  obtain ⟨n, rfl, rfl⟩ := JM.in10 hcl
  have e2p : 2 ^ s.costs.length ≤ 2 ^ 5 := Nat.pow_le_pow_right (by decide) wf.c5
  have c5 := wf.c5
  have ls : (Dr05.sets s).length ≤ 32 := by
    unfold Dr05.sets
    rw [List.length_range]
    exact e2p
  refine q_asg (ev_op (ev_var rfl) ev_c (rv_ixL hb (v := .int (n : Int)) (atI_nat (j := 0) rfl))) fun H1 e1 => ?_
  have S1 := S.ex e1
  refine q_when (et_not (a := decide (1 ≤ n) && decide (n ≤ s.costs.length)) (et_B (ev_call (ea_cons (ev_costs T S1 (ev_var rfl)) (ea_cons (ev_var rfl) ea_nil)) fun H3 e3 Q3 q3 E3 => ⟨c, nums s.costs, n, rfl, sq_of ((S1.ex e3).cs), by rw [List.length_map]; exact q3⟩))) (fun e H2 e2 => ?_) (fun e H2 e2 => ?_)
  · rw [Bool.not_eq_true'] at e
    have k' : RetC C H a c d dx (s, [-1]) Q := by
      have q : Dr05.step s (.spare n) = (s, [-1]) := by
        unfold Dr05.step
        dsimp only
        rw [if_pos]
        exact e
      rw [q] at k
      exact k
    exact s_retL (el_lst (ea_cons ev_c ea_nil) (by show 1 ≤ 100000; decide)) fun p H4 hp e4 h4 => k'.asks S p H4 (fresh_back (e1.trans e2) hp) ((e1.trans e2).trans e4) h4
  · rw [Bool.not_eq_false'] at e
    have k' : RetC C H a c d dx (s, [0, Dr05.spare s n]) Q := by
      have q : Dr05.step s (.spare n) = (s, [0, Dr05.spare s n]) := by
        unfold Dr05.step
        dsimp only
        rw [if_neg]
        show ¬ (decide (1 ≤ n) && decide (n ≤ s.costs.length)) = false
        rw [e]
        decide
      rw [q] at k
      exact k
    rw [Bool.and_eq_true, decide_eq_true_eq, decide_eq_true_eq] at e
    obtain ⟨i, rfl⟩ : ∃ i, n = i + 1 := ⟨n - 1, by omega⟩
    have e02 := e1.trans e2
    have S2 := S.ex e02
    refine q_asg (v := .int ((2 ^ i : Nat) : Int)) (ev_call (ea_cons (ev_var rfl) ea_nil) fun H3 e3 Q3 q3 E3 => ⟨i, rfl, by omega, q3⟩) fun H3 e3 => ?_
    have S3 := S2.ex e3
    refine q_asgL (xs := nums ((Dr05.sets s).filter fun t => t &&& 2 ^ i == 2 ^ i)) (el_is (el_lcNL (xs := nums (Dr05.sets s)) (fun q => (Dr05.sets s).getD q 0 &&& 2 ^ i == 2 ^ i) (fun q => V.int ((Dr05.sets s).getD q 0 : Nat)) (el_call (ea_cons (ev_costs T S3 (ev_var rfl)) ea_nil) fun H4 e4 Q4 q4 E4 => ⟨c, nums s.costs, rfl, sq_of (S3.ex e4).cs, by rw [List.length_map]; exact wf.c5, by rw [List.length_map]; exact q4⟩)
      (by rw [List.length_map]; omega) (fun _ => rfl) (fun q x H4 e4 hx => ?_) (fun q x H4 e4 hx _ => ?_)) ?_) fun ph H4 hph e4 h4 => ?_
    · obtain ⟨rfl, _⟩ := nums_get hx
      exact et_B (ev_call (ea_cons (ev_var rfl) (ea_cons (ev_var rfl) ea_nil)) fun H5 e5 Q5 q5 E5 => ⟨_, 2 ^ i, rfl, q5⟩)
    · obtain ⟨rfl, _⟩ := nums_get hx
      exact ev_var rfl
    · rw [List.length_map]
      exact given_nums (Dr05.sets s) fun t => t &&& 2 ^ i == 2 ^ i
    · have S4 := S3.ex e4
      refine q_asgL (xs := nums ((Dr05.sets s).filter fun t => !(t &&& 2 ^ i == 2 ^ i))) (el_is (el_lcNL (xs := nums (Dr05.sets s)) (fun q => !((Dr05.sets s).getD q 0 &&& 2 ^ i == 2 ^ i)) (fun q => V.int ((Dr05.sets s).getD q 0 : Nat)) (el_call (ea_cons (ev_costs T S4 (ev_var rfl)) ea_nil) fun H5 e5 Q5 q5 E5 => ⟨c, nums s.costs, rfl, sq_of (S4.ex e5).cs, by rw [List.length_map]; exact wf.c5, by rw [List.length_map]; exact q5⟩)
        (by rw [List.length_map]; omega) (fun _ => rfl) (fun q x H5 e5 hx => ?_) (fun q x H5 e5 hx _ => ?_)) ?_) fun pl H5 hpl e5 h5 => ?_
      · obtain ⟨rfl, _⟩ := nums_get hx
        exact et_not (et_B (ev_call (ea_cons (ev_var rfl) (ea_cons (ev_var rfl) ea_nil)) fun H5 e5 Q5 q5 E5 => ⟨_, 2 ^ i, rfl, q5⟩))
      · obtain ⟨rfl, _⟩ := nums_get hx
        exact ev_var rfl
      · rw [List.length_map]
        exact given_nums (Dr05.sets s) fun t => !(t &&& 2 ^ i == 2 ^ i)
      · have S5 := S4.ex e5
        have e05 := ((e02.trans e3).trans e4).trans e5
        have hi : 2 ^ i < 2 ^ s.costs.length := Nat.pow_lt_pow_right (by decide) (by omega)
        have n1 : ((Dr05.sets s).filter fun t => t &&& 2 ^ i == 2 ^ i) ≠ [] := List.ne_nil_of_mem (a := 2 ^ i) (List.mem_filter.mpr ⟨List.mem_range.mpr hi, by rw [Nat.and_self]; exact beq_self_eq_true _⟩)
        have n2 : ((Dr05.sets s).filter fun t => !(t &&& 2 ^ i == 2 ^ i)) ≠ [] := List.ne_nil_of_mem (a := 0) (List.mem_filter.mpr ⟨List.mem_range.mpr (Nat.two_pow_pos _), by rw [Nat.zero_and, Bool.not_eq_true', beq_eq_false_iff_ne]; exact Nat.ne_of_lt (Nat.two_pow_pos i)⟩)
        refine s_retL (el_lst (vs := [.int 0, .int (Dr05.spare s (i + 1))]) (ea_cons ev_c (ea_cons (ev_is (ev_op (ev_call (z := .int (Dr05.most s 1 1 ((Dr05.sets s).filter fun t => t &&& 2 ^ i == 2 ^ i))) (ea_cons (ev_costs T S5 (ev_var rfl)) (ea_cons (ev_jobs T S5 (ev_var rfl)) (ea_cons (ev_var rfl) ea_nil))) fun H6 e6 Q6 q6 E6 => ⟨c, d, ph, s, _, rfl, sq_of (S5.ex e6).cs, (S5.ex e6).js, wf.sz, sq_of ((e5.trans e6) _ _ h4), n1, Nat.le_trans (List.length_filter_le _ _) (by omega), q6⟩)
          (ev_call (z := .int (Dr05.most s 1 1 ((Dr05.sets s).filter fun t => !(t &&& 2 ^ i == 2 ^ i)))) (ea_cons (ev_costs T S5 (ev_var rfl)) (ea_cons (ev_jobs T S5 (ev_var rfl)) (ea_cons (ev_var rfl) ea_nil))) fun H6 e6 Q6 q6 E6 => ⟨c, d, pl, s, _, rfl, sq_of (S5.ex e6).cs, (S5.ex e6).js, wf.sz, sq_of (e6 _ _ h5), n2, Nat.le_trans (List.length_filter_le _ _) (by omega), q6⟩) rv_I0) ?_) ea_nil)) (by show 2 ≤ 100000; decide)) fun p H6 hp e6 h6 => k'.asks S p H6 (fresh_back e05 hp) (e05.trans e6) h6
        have q1 : ((Dr05.sets s).filter fun t => t &&& 2 ^ i == 2 ^ i) = (Dr05.sets s).filter fun t => Dr01.has t (i + 1) := List.filter_congr fun t _ => one_has t i
        have q2 : ((Dr05.sets s).filter fun t => !(t &&& 2 ^ i == 2 ^ i)) = (Dr05.sets s).filter fun t => !Dr01.has t (i + 1) := List.filter_congr fun t _ => congrArg not (one_has t i)
        rw [q1, q2]
        rfl
theorem scMoney : FnScope ["shop", "numbers", "within", "lowest", "tools"] ["shop", "numbers"] (defScope sMoney) := ⟨rfl, rfl, rfl, by decide +kernel, rfl, by decide +kernel, by decide +kernel⟩
/-- the first of the best within the money -/
theorem money_first (s : Shop) (b : Nat) {x : Nat} {r : List Nat} (e : (((Dr05.sets s).filter fun t => decide (costL s.costs t ≤ b)).filter fun t => Dr05.gain s 1 1 t == Dr05.most s 1 1 ((Dr05.sets s).filter fun t => decide (costL s.costs t ≤ b))) = x :: r) : x = Dr05.withMoney s b := by
  obtain ⟨w1, w2, w3⟩ := JM.money_is s b
  have hx : x ∈ x :: r := List.mem_cons_self
  rw [← e, List.mem_filter, List.mem_filter, beq_iff_eq, decide_eq_true_eq] at hx
  obtain ⟨⟨x1, x2⟩, x3⟩ := hx
  have hw : Dr05.withMoney s b ∈ (Dr05.sets s).filter fun t => decide (costL s.costs t ≤ b) := List.mem_filter.mpr ⟨List.mem_range.mpr w1, decide_eq_true w2⟩
  have hm := (JM.most_is s 1 1 (List.ne_nil_of_mem hw)).2 _ hw
  obtain ⟨y1, y2⟩ := w3 x (List.mem_range.mp x1) x2
  rw [← x3, JM.gain_eq, JM.gain_eq] at hm
  have eg : JM.left s x = JM.left s (Dr05.withMoney s b) := by omega
  have le1 := y2 eg
  have hin : Dr05.withMoney s b ∈ x :: r := by
    rw [← e]
    exact List.mem_filter.mpr ⟨hw, beq_iff_eq.mpr (by rw [← x3, JM.gain_eq, JM.gain_eq, eg])⟩
  have hs : (x :: r).Pairwise (· < ·) := by
    rw [← e]
    exact List.Pairwise.filter _ (List.Pairwise.filter _ List.pairwise_lt_range)
  rcases List.mem_cons.mp hin with h | h
  · exact h.symm
  · exact absurd le1 (Nat.not_le.mpr ((List.pairwise_cons.mp hs).1 _ h))
theorem ok_money (F : DefAt K mg "tell_money" sMoney ["shop", "numbers"]) (T : Cl K C) (cA : Cal P w K mg base 2 "all_sets" (spAllSets K)) (cC : Cal P w K mg base 1 "cost_of" (spCost K)) (cB : Cal P w K mg base 6 "best_of" (spBestOf K)) (cL : Cal P w K mg base 4 "left_by" (spLeft K)) :
    Cal P w K mg base 7 "tell_money" (spH K C 11) := by
  refine F.cal scMoney (fun vs H Q E h => spH_len h) (fun f cdv A outer s H vs Q E hr h => ⟨_, pss_cons (ps_setLc (i := 2) (own := [("tools", 4)]) (g := gName 4) (tt := tTest (tOp (rI0 fun i j => .bl (decide (i ≤ j))) (tCall (spCost K) [] E0 (tCons (tFld K (tVar 0) "costs") (tCons (tVar 4) tNil))) (tOp (rIxL K) (tVar 1) (tC (.int 0))))) (te := tVar 4)
      (by rfl) scMoney.nd rfl rfl (sw_true rfl rfl rfl (by decide +kernel)) (pi_list (pe_c cA hr (by decide) (by rfl) (pa_cons (pe_fld (pv 0) rfl) pa_nil))) (blkOk_by (own := [("tools", 4)]) (N := ["shop", "numbers", "within", "lowest", "tools"]) (sc := defScope sMoney) (by decide +kernel))
      (fun _ _ _ _ _ => pg_name (i := 4) scMoney.nd rfl (Or.inl rfl)) (fun _ _ _ _ _ => pts_one (pt_cmpR op_le (pe_c cC hr (by decide) (by rfl) (pa_cons (pe_fld (pv 0) rfl) (pa_cons (pv 4) pa_nil))) (pe_ix ix_list (pv 1) pe_int (fun _ _ => rfl)) (nomark _))) (fun _ _ _ _ _ => pv 4))
    (pss_cons (ps_set (i := 3) scMoney.nd rfl (Or.inl rfl) (pe_ix ix_list (pe_c cB hr (by decide) (by rfl) (pa_cons (pe_fld (pv 0) rfl) (pa_cons (pe_fld (pv 0) rfl) (pa_cons (pv 2) pa_nil)))) pe_int (fun _ _ => rfl)))
    (pss_one (ps_ret (pe_lst (pa_cons (pe_c cL hr (by decide) (by rfl) (pa_cons (pe_fld (pv 0) rfl) (pa_cons (pe_fld (pv 0) rfl) (pa_cons (pv 3) pa_nil)))) (pa_cons (pv 3) pa_nil)))))), ?_⟩)
  obtain ⟨a, b, c, d, dx, s, ns, cl, rfl, S, wf, hb, hcl, k⟩ := h
  obtain ⟨n, rfl, rfl⟩ := JM.in11 hcl
  have c5 := wf.c5
  have e2p : 2 ^ s.costs.length ≤ 2 ^ 5 := Nat.pow_le_pow_right (by decide) wf.c5
  have ls : (Dr05.sets s).length ≤ 32 := by
    unfold Dr05.sets
    rw [List.length_range]
    exact e2p
  refine q_asgL (xs := nums ((Dr05.sets s).filter fun t => decide (costL s.costs t ≤ n))) (el_is (el_lcNL (xs := nums (Dr05.sets s)) (fun q => decide (costL s.costs ((Dr05.sets s).getD q 0) ≤ n)) (fun q => V.int ((Dr05.sets s).getD q 0 : Nat)) (el_call (ea_cons (ev_costs T S (ev_var rfl)) ea_nil) fun H4 e4 Q4 q4 E4 => ⟨c, nums s.costs, rfl, sq_of (S.ex e4).cs, by rw [List.length_map]; exact wf.c5, by rw [List.length_map]; exact q4⟩)
    (by rw [List.length_map]; omega) (fun _ => rfl) (fun q x H4 e4 hx => ?_) (fun q x H4 e4 hx _ => ?_)) ?_) fun pw H1 hpw e1 h1 => ?_
  · obtain ⟨rfl, _⟩ := nums_get hx
    refine et_is (et_test (ev_op (ev_call (z := .int (costL s.costs ((Dr05.sets s).getD q 0) : Nat)) (ea_cons (ev_costs T (S.ex e4) (ev_var rfl)) (ea_cons (ev_var rfl) ea_nil)) fun H5 e5 Q5 q5 E5 => ⟨c, s.costs, _, rfl, sq_of (S.ex (e4.trans e5)).cs, by omega, q5⟩) (ev_op (ev_var rfl) ev_c (rv_ixL (ex_l e4 hb) (v := .int (n : Int)) (atI_nat (j := 0) rfl))) rv_I0)) ?_
    exact dec_ge n _
  · obtain ⟨rfl, _⟩ := nums_get hx
    exact ev_var rfl
  · rw [List.length_map]
    exact given_nums (Dr05.sets s) fun t => decide (costL s.costs t ≤ n)
  · have S1 := S.ex e1
    have h0 : 0 ∈ (Dr05.sets s).filter fun t => decide (costL s.costs t ≤ n) := List.mem_filter.mpr ⟨List.mem_range.mpr (Nat.two_pow_pos _), decide_eq_true (by rw [JM.costL_zero]; exact Nat.zero_le _)⟩
    obtain ⟨x, r, eb⟩ : ∃ x r, (((Dr05.sets s).filter fun t => decide (costL s.costs t ≤ n)).filter fun t => Dr05.gain s 1 1 t == Dr05.most s 1 1 ((Dr05.sets s).filter fun t => decide (costL s.costs t ≤ n))) = x :: r := by
      obtain ⟨⟨t0, ht0, em⟩, _⟩ := JM.most_is s 1 1 (List.ne_nil_of_mem h0)
      cases e : (((Dr05.sets s).filter fun t => decide (costL s.costs t ≤ n)).filter fun t => Dr05.gain s 1 1 t == Dr05.most s 1 1 ((Dr05.sets s).filter fun t => decide (costL s.costs t ≤ n))) with
      | nil => exact absurd e (List.ne_nil_of_mem (a := t0) (List.mem_filter.mpr ⟨ht0, beq_iff_eq.mpr em.symm⟩))
      | cons x r => exact ⟨x, r, rfl⟩
    have ex := money_first s n eb
    refine q_asg (v := .int (x : Int)) (ev_opL1 (xs := nums (x :: r)) (el_call (ea_cons (ev_costs T S1 (ev_var rfl)) (ea_cons (ev_jobs T S1 (ev_var rfl)) (ea_cons (ev_var rfl) ea_nil))) fun H2 e2 Q2 q2 E2 => ⟨c, d, pw, s, _, rfl, sq_of (S1.ex e2).cs, (S1.ex e2).js, wf.sz, sq_of (e2 _ _ h1), List.ne_nil_of_mem h0, Nat.le_trans (List.length_filter_le _ _) (by omega), by rw [eb]; exact q2⟩) (fun H2 e2 => ev_c) (fun p H2 h2 e2 => rv_ixL (sq_of h2) (v := .int (x : Int)) (atI_nat (j := 0) rfl))) fun H2 e2 => ?_
    have S2 := S1.ex e2
    have e02 := e1.trans e2
    refine s_retL (el_lst (vs := [.int (JM.left s x), .int (x : Int)]) (ea_cons (ev_call (ea_cons (ev_costs T S2 (ev_var rfl)) (ea_cons (ev_jobs T S2 (ev_var rfl)) (ea_cons (ev_var rfl) ea_nil))) fun H3 e3 Q3 q3 E3 => ⟨c, d, s, x, rfl, sq_of (S2.ex e3).cs, (S2.ex e3).js, wf.sz, q3⟩) (ea_cons (ev_var rfl) ea_nil)) (by show 2 ≤ 100000; decide)) fun p H3 hp e3 h3 => k.one S ?_ p H3 (fresh_back e02 hp) (e02.trans e3) h3
    rw [ex, JM.gain_eq]
    rfl
theorem scJobs : FnScope ["shop", "numbers", "told", "number"] ["shop", "numbers"] (defScope sJobs) := ⟨rfl, rfl, rfl, by decide +kernel, rfl, by decide +kernel, by decide +kernel⟩
def rowsOf (js : List Job) : List Int := js.flatMap fun j => [(j.num : Int), (j.pay : Int), (j.needs : Int)]
theorem rows_len (js : List Job) : (rowsOf js).length = 3 * js.length := by
  induction js with
  | nil => rfl
  | cons x l ih =>
    unfold rowsOf at ih ⊢
    simp only [List.flatMap_cons, List.length_append, ih, List.length_cons, List.length_nil]
    omega
theorem rows_ints (js : List Job) : Dr05.ints (js.flatMap fun j => [j.num, j.pay, j.needs]) = rowsOf js := by
  unfold Dr05.ints rowsOf
  rw [List.map_flatMap]
  rfl
theorem ok_jobs (F : DefAt K mg "tell_jobs" sJobs ["shop", "numbers"]) (B : Blt mg) (T : Cl K C) : Cal P w K mg base 1 "tell_jobs" (spH K C 13) := by
  refine F.cal scJobs (fun vs H Q E h => spH_len h) (fun f cdv A outer s H vs Q E hr h => ⟨_, pss_cons (ps_set (i := 2) scJobs.nd rfl (Or.inl rfl) (pe_lst (pa_cons (pe_callB call_lenD (by rfl) B.len PySem.boot_len (pa_cons (pe_fld (pv 0) rfl) pa_nil)) pa_nil)))
    (pss_cons (ps_lock (ps_for PassesOwn.never rfl (pi_keys (pe_fld (pv 0) rfl)) (pg_name (i := 3) scJobs.nd rfl (Or.inl rfl))
      (pss_one (ps_expr (pe_bm PySem.F.plainAttrs_list PySem.F.slot_list_extend PySem.F.type_list_extend mt_extend (pv 2) (pa_cons (pe_lst (pa_cons (pv 3) (pa_cons (pe_ix ix_tup (pe_dget (hu_of hr) (pe_fld (pv 0) rfl) (pv 3) (fun _ _ => rfl)) pe_int (fun _ _ => rfl)) (pa_cons (pe_ix ix_tup (pe_dget (hu_of hr) (pe_fld (pv 0) rfl) (pv 3) (fun _ _ => rfl)) pe_int (fun _ _ => rfl)) pa_nil)))) pa_nil))))))
    (pss_one (ps_ret (pv 2)))), ?_⟩)
  obtain ⟨a, b, c, d, dx, s, ns, cl, rfl, S, wf, hb, hcl, k⟩ := h
  obtain ⟨rfl, rfl⟩ := JM.in13 hcl
  obtain ⟨kvs, hd, pr⟩ := S.js
  have j5 := wf.j5
  refine q_asgL (xs := [.int (s.jobs.length : Nat)]) (el_lst (ea_cons (ev_is (ev_lenD (ev_jobs T S (ev_var rfl)) hd) (by rw [paired_len pr])) ea_nil) (by show 1 ≤ 100000; decide)) fun tl H1 htl e1 h1 => ?_
  have S1 := S.ex e1
  have nda : a ≠ d := ne_of S.ins hd (by intro z; cases z)
  have ntd : tl ≠ d := (ne_of_none hd htl).symm
  have insL : ∀ {od : Obj} {H2 : Hp}, Ex (upd H1 d (.frz od (.dK kvs))) H2 → H2 a = some (.ins C dx (flds c d ((s.next : Int) - 1))) := fun e2 => e2 _ _ (by rw [upd_ne nda]; exact S1.ins)
  refine q_forK (kvs := kvs) (d := d) (e1 _ _ hd) (fun od => ev_fld (ev_var rfl) (insL (Ex.refl _)) T.cl T.nJ (fl_jobs ..)) (fun od i σ' H' => ∃ u3, σ' = [some (.ref a), some (.ref b), some (.ref tl), u3] ∧ H' d = some (.frz od (.dK kvs)) ∧ ExA d H H' ∧ H' tl = some (.lst ((([(s.jobs.length : Int)] ++ rowsOf (s.jobs.take i))).map V.int)))
    (fun od H2 e2 => ⟨none, rfl, e2 _ _ upd_same, fun b' o n h' => e2 _ _ (by rw [upd_ne n]; exact e1 _ _ h'), e2 _ _ (by rw [upd_ne ntd]; exact h1)⟩) (fun od i σ' H' hi ⟨_, _, h, _⟩ => h) (fun od i kk vv σ' H' R BB hk ⟨u3, eσ, h2, h3, h4⟩ => ?_) (fun od σ' H' ⟨u3, eσ, h2, h3, h4⟩ => ?_)
  · subst eσ
    obtain ⟨j, hj, hk1, _⟩ := paired_get pr hk
    have hk1 : kk = Sum.inl (j.num : Int) := hk1
    subst hk1
    have hjm := List.mem_of_getElem? hj
    have hi : i < s.jobs.length := (List.getElem?_eq_some_iff.mp hj).1
    obtain ⟨t1, v1, v2⟩ := jobs_val pr wf.nd j hjm
    have hT : H' t1 = some (.tup [.int (j.pay : Int), .int (j.needs : Int)]) := h3 _ _ (ne_of v2 hd (by intro z; cases z)) v2
    have hI : H' a = some (.ins C dx (flds c d ((s.next : Int) - 1))) := h3 _ _ nda S.ins
    have hrd : Rd H' d (.dK kvs) := .inr ⟨_, h2⟩
    have eJ : ∀ {σ0 : L2.St}, σ0[0]? = some (some (.ref a)) → Ev (tFld K (tVar 0) "jobs") σ0 H' (.ref d) := fun hz => ev_fld (ev_var hz) hI T.cl T.nJ (fl_jobs ..)
    have rl := rows_len (s.jobs.take i)
    rw [List.length_take] at rl
    refine s_extNL (ys := [.int (j.num : Int), .int (j.pay : Int), .int (j.needs : Int)]) h4 (ev_var rfl) (el_lst (ea_cons (ev_var rfl) (ea_cons (ev_op (ev_dget (k := Sum.inl (j.num : Int)) (eJ rfl) (ev_var rfl) hrd v1) ev_c (rv_ixT (st_of hT) (atI_nat (j := 0) rfl))) (ea_cons (ev_op (ev_dget (k := Sum.inl (j.num : Int)) (eJ rfl) (ev_var rfl) hrd v1) ev_c (rv_ixT (st_of hT) (atI_nat (j := 1) rfl))) ea_nil))) (by show 3 ≤ 100000; decide))
      (by rw [List.length_map, List.length_append, rl]; show 1 + _ + 3 ≤ 100000; omega) fun H2 e2 => ⟨some (.int (j.num : Int)), rfl, ?_, ?_, ?_⟩
    · rw [upd_ne ntd.symm]
      exact e2 _ _ h2
    · intro b' o n h'
      rw [upd_ne (ne_of_none h' htl)]
      exact e2 _ _ (h3 _ _ n h')
    · rw [upd_same]
      have ht : s.jobs.take (i + 1) = s.jobs.take i ++ [j] := by rw [List.take_add_one, hj]; rfl
      rw [ht]
      unfold rowsOf
      rw [List.flatMap_append, List.flatMap_singleton]
      simp only [List.map_append, List.map_cons, List.map_nil, List.append_assoc]
  · subst eσ
    rw [paired_len pr, List.take_length] at h4
    refine s_ret (ev_var rfl) fun H2 e2 => k.one S ?_ tl H2 htl ((h3.back hd).trans e2) (e2 _ _ (by rw [upd_ne ntd]; exact h4))
    rw [rows_ints]
    rfl
end
end J
/-! JSharing: the defs of jobtools/sharing.py keep their promises -/
namespace J
open PySem PySem.Spec PyProof.Rows L2 Evl
open JM (bit costL doneB payL job0 nd zero shr othJ choices pickJ selJ)
open Dr05 (Shop Job)
abbrev sChoices : Stmt := top 43
abbrev sNeed : Stmt := top 44
abbrev sShare : Stmt := top 45
abbrev sLess : Stmt := top 46
abbrev sLeastShare : Stmt := top 47
abbrev sWhoPay : Stmt := top 48
abbrev sWithout : Stmt := top 49
abbrev sSharesOf : Stmt := top 50
abbrev nmV (qs : List Job) : List V := qs.map fun (j : Job) => V.int (j.num : Int)
def jkey (j : Job) : Key := Sum.inl (j.num : Int)
theorem nmV_get {l : List Job} {i : Nat} {x : V} (h : (nmV l)[i]? = some x) : x = V.int ((l.getD i job0).num : Int) ∧ i < l.length := by
  obtain ⟨j, hj, rfl⟩ := map_get h
  refine ⟨?_, (List.getElem?_eq_some_iff.mp hj).1⟩
  rw [List.getD_eq_getElem?_getD, hj]
  rfl
def ChV (H : Hp) (x : V) (qs : List Job) : Prop := ∃ p, x = .ref p ∧ H p = some (.lst (nmV qs))
theorem ch_ex {H H' : Hp} (e : Ex H H') {xs : List V} {L : List (List Job)} (p : Paired (ChV H) xs L) : Paired (ChV H') xs L := Paired.mapP p fun x y ⟨p, h1, h2⟩ => ⟨p, h1, e _ _ h2⟩
def RetU (xs : List V) (H : Hp) (Q : VK) : Prop := ∀ p H2, H p = none → Ex H H2 → H2 p = some (.tup xs) → Q (.ref p) H2
theorem eu_call {σ : L2.St} {H : Hp} {sp : Sp} {dvs vs xs : List V} {E : XK} {ta : TA} (h : EvA ta σ H vs) (hs : ∀ H1, Ex H H1 → ∀ Q : VK, RetU xs H1 Q → ∀ E : XK, sp (vs ++ dvs) H1 Q E) : EvU (tCall sp dvs E ta) σ H xs := fun H1 e Q q =>
  h H1 e _ fun H2 e2 => hs H2 (e.trans e2) Q (fun p H3 hp e3 h3 => q p H3 (fresh_back e2 hp) (e2.trans e3) h3) E
theorem ev_call1L {σ : L2.St} {H : Hp} {te : TE} {sp : Sp} {xs : List V} {E : XK} {z : V} (h : EvL te σ H xs) (hs : ∀ p H1, Ex H H1 → H1 p = some (.lst xs) → SpV sp [.ref p] H1 z) : Ev (tCall sp [] E (tCons te tNil)) σ H z := fun H0 e Q q =>
  h H0 e _ fun p H1 hp e1 hl => hs p H1 (e.trans e1) hl H1 (Ex.refl _) Q (fun H2 e2 => q H2 (e1.trans e2)) E
/-- arguments of two tuples -/
def spNeedL (K : PySem.W.Frag) : Sp := fun vs H Q _ => ∃ (d e : Addr) (js qs : List Job), vs = [.ref d, .ref e] ∧ JobsAt H d js ∧ (js.map fun j => j.num).Nodup ∧ SqL K H e (nmV qs) ∧ qs.length ≤ 1000 ∧ (∀ j ∈ qs, j ∈ js) ∧ RetV (.int (nd qs : Nat)) H Q
def spNeedD : Sp := fun vs H Q _ => ∃ (d e : Addr) (js qs : List Job) (kvs : List (Key × V)), vs = [.ref d, .ref e] ∧ JobsAt H d js ∧ (js.map fun j => j.num).Nodup ∧ H e = some (.dK kvs) ∧ d ≠ e ∧ kvs.map (·.1) = qs.map jkey ∧ qs.length ≤ 20000 ∧ (∀ j ∈ qs, j ∈ js) ∧ RetV (.int (nd qs : Nat)) H Q
def spShare (K : PySem.W.Frag) : Sp := fun vs H Q _ => ∃ (c d e : Addr) (cz : List Nat) (js qs : List Job), vs = [.ref c, .ref d, .ref e] ∧ SqL K H c (nums cz) ∧ cz.length ≤ 1000 ∧ JobsAt H d js ∧ (js.map fun j => j.num).Nodup ∧ SqL K H e (nmV qs) ∧ qs.length ≤ 1000 ∧ (∀ j ∈ qs, j ∈ js) ∧
  RetU [.int ((shr cz qs).1 : Nat), .int ((shr cz qs).2 : Nat)] H Q
def spLess : Sp := fun vs H Q _ => ∃ (f g : Addr) (a b x y : Nat), vs = [.ref f, .ref g] ∧ H f = some (.tup [.int (a : Int), .int (b : Int)]) ∧ H g = some (.tup [.int (x : Int), .int (y : Int)]) ∧ b ≤ 1000 ∧ y ≤ 1000 ∧ RetV (.bl (decide (a * y < x * b))) H Q
section
variable {P : Program} {w : World} {K : PySem.W.Frag} {mg : Str → Option Value} {base : Heap}
theorem scNeed : FnScope ["jobs", "numbers", "number"] ["jobs", "numbers"] (defScope sNeed) := ⟨rfl, rfl, rfl, by decide +kernel, rfl, by decide +kernel, by decide +kernel⟩
theorem needs_map (qs : List Job) : ((List.range qs.length).map fun i => V.int ((qs.getD i job0).needs : Int)) = nums (qs.map fun j => j.needs) := by
  rw [map_range qs job0 fun j => V.int (j.needs : Int)]
  unfold nums
  rw [List.map_map]
  rfl
theorem ok_needL (F : DefAt K mg "needed_by" sNeed ["jobs", "numbers"]) (cO : Cal P w K mg base 1 "what_some_has" (spSomeHas K)) : Cal P w K mg base 2 "needed_by" (spNeedL K) := by
  refine F.cal scNeed (fun vs H Q E h => ?_) (fun f cdv A outer s H vs Q E hr h => ⟨_, pss_one (ps_ret (pe_c cO hr (by decide) (by rfl) (pa_cons (pe_lc (own := [("number", 2)]) (g := gName 2) (tt := tYes) (te := tOp (rIxT K) (tDGet (tVar 0) (tVar 2)) (tC (.int 1)))
      (by rfl) scNeed.nd (pi_list (pv 1)) (blkOk_by (own := [("number", 2)]) (N := ["jobs", "numbers", "number"]) (sc := defScope sNeed) (by decide +kernel))
      (fun _ _ _ _ _ => pg_name (i := 2) scNeed.nd rfl (Or.inl rfl)) (fun _ _ _ _ _ => pts_nil) (fun _ _ _ _ _ => pe_ix ix_tup (pe_dget (hu_of hr) (pv 0) (pv 2) (fun _ _ => rfl)) pe_int (fun _ _ => rfl))) pa_nil))), ?_⟩)
  · obtain ⟨d, e, js, qs, rfl, _⟩ := h
    rfl
  · obtain ⟨d, e, js, qs, rfl, hj, ndj, he, hl, hin, k⟩ := h
    refine s_ret (v := .int (nd qs : Nat)) (ev_call1L (xs := nums (qs.map fun j => j.needs)) (el_is (el_lcL (xs := nmV qs) (fun _ => true) (fun i => V.int ((qs.getD i job0).needs : Int)) (ev_var rfl) he (by rw [List.length_map]; omega) (fun _ => rfl) (fun i x H1 e1 hx => et_yes) (fun i x H1 e1 hx _ => ?_)) ?_) fun p H1 e1 h1 H2 e2 Q2 q2 E2 => ⟨p, qs.map (fun (j : Job) => j.needs), rfl, sq_of (e2 _ _ h1), q2⟩) k
    · obtain ⟨rfl, hi⟩ := nmV_get hx
      obtain ⟨kvs, hd, pr⟩ := hj.ex e1
      obtain ⟨t1, v1, v2⟩ := jobs_val pr ndj (qs.getD i job0) (hin _ (JM.at_mem hi))
      exact ev_op (ev_dget (k := Sum.inl ((qs.getD i job0).num : Int)) (ev_var rfl) (ev_var rfl) (Rd.of hd) v1) ev_c (rv_ixT (st_of v2) (atI_nat (j := 1) rfl))
    · rw [given_all, List.length_map]
      exact needs_map qs
theorem keys_get {kvs : List (Key × V)} {qs : List Job} (h : kvs.map (·.1) = qs.map jkey) {i : Nat} {q : Key × V} (hq : kvs[i]? = some q) : q.1 = jkey (qs.getD i job0) ∧ i < qs.length := by
  have z := congrArg (fun l => l[i]?) h
  simp only [List.getElem?_map, hq, Option.map_some] at z
  cases e : qs[i]? with
  | none =>
    rw [e] at z
    cases z
  | some j =>
    rw [e] at z
    refine ⟨?_, (List.getElem?_eq_some_iff.mp e).1⟩
    rw [List.getD_eq_getElem?_getD, e]
    exact Option.some.inj z
theorem ok_needD (F : DefAt K mg "needed_by" sNeed ["jobs", "numbers"]) (cO : Cal P w K mg base 1 "what_some_has" (spSomeHas K)) : Cal P w K mg base 2 "needed_by" spNeedD := by
  refine F.cal scNeed (fun vs H Q E h => ?_) (fun f cdv A outer s H vs Q E hr h => ⟨_, pss_one (ps_ret (pe_c cO hr (by decide) (by rfl) (pa_cons (pe_lock (pe_lc (own := [("number", 2)]) (g := gName 2) (tt := tYes) (te := tOp (rIxT K) (tDGet (tVar 0) (tVar 2)) (tC (.int 1)))
      (by rfl) scNeed.nd (pi_keys (pv 1)) (blkOk_by (own := [("number", 2)]) (N := ["jobs", "numbers", "number"]) (sc := defScope sNeed) (by decide +kernel))
      (fun _ _ _ _ _ => pg_name (i := 2) scNeed.nd rfl (Or.inl rfl)) (fun _ _ _ _ _ => pts_nil) (fun _ _ _ _ _ => pe_ix ix_tup (pe_dget (hu_of hr) (pv 0) (pv 2) (fun _ _ => rfl)) pe_int (fun _ _ => rfl)))) pa_nil))), ?_⟩)
  · obtain ⟨d, e, js, qs, kvs, rfl, _⟩ := h
    rfl
  · obtain ⟨d, e, js, qs, kvs, rfl, ⟨kvj, hd, pr⟩, ndj, he, hde, hk, hl, hin, k⟩ := h
    have lk : kvs.length = qs.length := by
      have z := congrArg List.length hk
      rw [List.length_map, List.length_map] at z
      exact z
    refine s_ret (v := .int (nd qs : Nat)) (ev_call1L (xs := nums (qs.map fun j => j.needs)) (el_is (el_lcK (kvs := kvs) (fun _ => true) (fun i => V.int ((qs.getD i job0).needs : Int)) (by omega) he (fun H1 => ev_var rfl) (fun _ => rfl) (fun i q od H1 e1 hq => et_yes) (fun i q od H1 e1 hq _ => ?_)) ?_) fun p H1 e1 h1 H2 e2 Q2 q2 E2 => ⟨p, qs.map (fun (j : Job) => j.needs), rfl, sq_of (e2 _ _ h1), q2⟩) k
    · obtain ⟨hq1, hi⟩ := keys_get hk hq
      obtain ⟨t1, v1, v2⟩ := jobs_val pr ndj (qs.getD i job0) (hin _ (JM.at_mem hi))
      rw [hq1]
      have hd1 : H1 d = some (.dK kvj) := e1 _ _ (by rw [upd_ne hde]; exact hd)
      have hT : H1 t1 = some (.tup [.int ((qs.getD i job0).pay : Int), .int ((qs.getD i job0).needs : Int)]) := e1 _ _ (by rw [upd_ne (ne_of v2 he (by intro z; cases z))]; exact v2)
      exact ev_op (ev_dget (k := jkey (qs.getD i job0)) (ev_var rfl) (ev_var rfl) (Rd.of hd1) v1) ev_c (rv_ixT (st_of hT) (atI_nat (j := 1) rfl))
    · rw [given_all, lk]
      exact needs_map qs
theorem scShare : FnScope ["costs", "jobs", "choice"] ["costs", "jobs", "choice"] (defScope sShare) := ⟨rfl, rfl, rfl, by decide +kernel, rfl, by decide +kernel, by decide +kernel⟩
theorem ok_share (F : DefAt K mg "share_in" sShare ["costs", "jobs", "choice"]) (B : Blt mg) (cN : Cal P w K mg base 2 "needed_by" (spNeedL K)) (cC : Cal P w K mg base 1 "cost_of" (spCost K)) : Cal P w K mg base 3 "share_in" (spShare K) := by
  refine F.cal scShare (fun vs H Q E h => ?_) (fun f cdv A outer s H vs Q E hr h => ⟨_, pss_one (ps_ret (pe_tup (pa_cons (pe_c cC hr (by decide) (by rfl) (pa_cons (pv 0) (pa_cons (pe_c cN hr (by decide) (by rfl) (pa_cons (pv 1) (pa_cons (pv 2) pa_nil))) pa_nil))) (pa_cons (pe_callB call_len_seq (by rfl) B.len PySem.boot_len (pa_cons (pv 2) pa_nil)) pa_nil)))), ?_⟩)
  · obtain ⟨c, d, e, cz, js, qs, rfl, _⟩ := h
    rfl
  · obtain ⟨c, d, e, cz, js, qs, rfl, hc, hcl, hj, ndj, he, hl, hin, k⟩ := h
    refine s_retU (eu_tup (vs := [.int ((shr cz qs).1 : Nat), .int ((shr cz qs).2 : Nat)]) (ea_cons (ev_call (ea_cons (ev_var rfl) (ea_cons (ev_call (z := .int (nd qs : Nat)) (ea_cons (ev_var rfl) (ea_cons (ev_var rfl) ea_nil)) fun H1 e1 Q1 q1 E1 => ⟨d, e, js, qs, rfl, hj.ex e1, ndj, ex_l e1 he, hl, hin, q1⟩) ea_nil)) fun H1 e1 Q1 q1 E1 => ⟨c, cz, nd qs, rfl, ex_l e1 hc, hcl, q1⟩)
      (ea_cons (ev_is (ev_len (ev_var rfl) he) (by rw [List.length_map]; rfl)) ea_nil)) (by show 2 ≤ 100000; decide)) k
theorem scLess : FnScope ["share", "other"] ["share", "other"] (defScope sLess) := ⟨rfl, rfl, rfl, by decide +kernel, rfl, by decide +kernel, by decide +kernel⟩
theorem ok_less (F : DefAt K mg "is_less" sLess ["share", "other"]) : Cal P w K mg base 1 "is_less" spLess := by
  refine F.cal scLess (fun vs H Q E h => ?_) (fun f cdv A outer s H vs Q E hr h => ⟨_, pss_one (ps_ret (pe_cmpR op_lt (pe_op op_mul (pe_ix ix_tup (pv 0) pe_int (fun _ _ => rfl)) (pe_ix ix_tup (pv 1) pe_int (fun _ _ => rfl))) (pe_op op_mul (pe_ix ix_tup (pv 1) pe_int (fun _ _ => rfl)) (pe_ix ix_tup (pv 0) pe_int (fun _ _ => rfl))) (nomark _))), ?_⟩)
  · obtain ⟨f, g, a, b, x, y, rfl, _⟩ := h
    rfl
  · obtain ⟨f, g, a, b, x, y, rfl, hf, hg, hb, hy, k⟩ := h
    refine s_ret (ev_is (ev_op (ev_op (ev_op (ev_var rfl) ev_c (rv_ixT (st_of hf) (atI_nat (j := 0) rfl))) (ev_op (ev_var rfl) ev_c (rv_ixT (st_of hg) (atI_nat (j := 1) rfl))) (rv_I (.inr ⟨by omega, by omega⟩))) (ev_op (ev_op (ev_var rfl) ev_c (rv_ixT (st_of hg) (atI_nat (j := 0) rfl))) (ev_op (ev_var rfl) ev_c (rv_ixT (st_of hf) (atI_nat (j := 1) rfl))) (rv_I (.inr ⟨by omega, by omega⟩))) rv_I0) ?_) k
    refine congrArg V.bl ?_
    rw [← Int.natCast_mul, ← Int.natCast_mul]
    exact decide_eq_decide.mpr Int.ofNat_lt
/-- choices as they lie in the heap -/
structure ChAt (H : Hp) (e : Addr) (js : List Job) (L : List (List Job)) : Prop where
  ex : ∃ xs, H e = some (.lst xs) ∧ Paired (ChV H) xs L
  few : L.length ≤ 100
  ok : ∀ qs ∈ L, qs ≠ [] ∧ qs.length ≤ 100 ∧ ∀ j ∈ qs, j ∈ js
theorem ChAt.mono {H H' : Hp} {e : Addr} {js : List Job} {L : List (List Job)} (h : ChAt H e js L) (x : Ex H H') : ChAt H' e js L := by
  obtain ⟨xs, h1, h2⟩ := h.ex
  exact ⟨⟨xs, x _ _ h1, ch_ex x h2⟩, h.few, h.ok⟩
def spLeastShare (K : PySem.W.Frag) : Sp := fun vs H Q _ => ∃ (c d e : Addr) (cz : List Nat) (js : List Job) (L : List (List Job)), vs = [.ref c, .ref d, .ref e] ∧ SqL K H c (nums cz) ∧ cz.length ≤ 1000 ∧ JobsAt H d js ∧ (js.map fun j => j.num).Nodup ∧ ChAt H e js L ∧ L ≠ [] ∧
  ∀ f H2 a b, Ex H H2 → H2 f = some (.tup [.int ((a : Nat) : Int), .int ((b : Nat) : Int)]) → (∃ qs ∈ L, (a, b) = shr cz qs) → (∀ qs ∈ L, a * (shr cz qs).2 ≤ (shr cz qs).1 * b) → Q (.ref f) H2
theorem min_nat {a b x y z1 z2 : Nat} (hb : 0 < b) (h : x * b < a * y) (h1 : a * z2 ≤ z1 * b) : x * z2 ≤ z1 * y := by
  refine Nat.le_of_mul_le_mul_right (c := b) ?_ hb
  have k1 := Nat.mul_le_mul_right z2 (Nat.le_of_lt h)
  have k2 := Nat.mul_le_mul_right y h1
  rw [Nat.mul_right_comm x z2 b, Nat.mul_right_comm z1 y b]
  rw [Nat.mul_right_comm a y z2] at k1
  exact Nat.le_trans k1 k2
theorem scLeastShare : FnScope ["costs", "jobs", "choices", "least", "choice", "share"] ["costs", "jobs", "choices"] (defScope sLeastShare) := ⟨rfl, rfl, rfl, by decide +kernel, rfl, by decide +kernel, by decide +kernel⟩
theorem ok_leastShare (F : DefAt K mg "least_share" sLeastShare ["costs", "jobs", "choices"]) (cS : Cal P w K mg base 3 "share_in" (spShare K)) (cI : Cal P w K mg base 1 "is_less" spLess) : Cal P w K mg base 4 "least_share" (spLeastShare K) := by
  refine F.cal scLeastShare (fun vs H Q E h => ?_) (fun f cdv A outer s H vs Q E hr h => ⟨_, pss_cons (ps_set (i := 3) scLeastShare.nd rfl (Or.inl rfl) (pe_c cS hr (by decide) (by rfl) (pa_cons (pv 0) (pa_cons (pv 1) (pa_cons (pe_ix ix_list (pv 2) pe_int (fun _ _ => rfl)) pa_nil)))))
    (pss_cons (ps_for PassesOwn.never rfl (pi_list (pv 2)) (pg_name (i := 4) scLeastShare.nd rfl (Or.inl rfl))
      (pss_cons (ps_set (i := 5) scLeastShare.nd rfl (Or.inl rfl) (pe_c cS hr (by decide) (by rfl) (pa_cons (pv 0) (pa_cons (pv 1) (pa_cons (pv 4) pa_nil)))))
      (pss_one (ps_if (pt_val (pe_c cI hr (by decide) (by rfl) (pa_cons (pv 5) (pa_cons (pv 3) pa_nil)))) (pss_one (ps_set (i := 3) scLeastShare.nd rfl (Or.inl rfl) (pv 5))) pss_nil))))
    (pss_one (ps_ret (pv 3)))), ?_⟩)
  · obtain ⟨c, d, e, cz, js, L, rfl, _⟩ := h
    rfl
  · obtain ⟨c, d, e, cz, js, L, rfl, hc, hcl, hj, ndj, ch, hne, k⟩ := h
    obtain ⟨xs, he, pr⟩ := ch.ex
    obtain ⟨q0, L', rfl⟩ : ∃ q0 L', L = q0 :: L' := by
      cases L with
      | nil => exact absurd rfl hne
      | cons q L' => exact ⟨q, L', rfl⟩
    obtain ⟨x0, xr, rfl, p0, rfl, hp0⟩ : ∃ x0 xr, xs = x0 :: xr ∧ ChV H x0 q0 := by
      cases pr with
      | cons r t => exact ⟨_, _, rfl, r⟩
    have ok0 := ch.ok q0 List.mem_cons_self
    refine q_asgU (xs := [.int ((shr cz q0).1 : Nat), .int ((shr cz q0).2 : Nat)]) (eu_call (ea_cons (ev_var rfl) (ea_cons (ev_var rfl) (ea_cons (ev_op (ev_var rfl) ev_c (rv_ixL (sq_of he) (v := .ref p0) (atI_nat (j := 0) rfl))) ea_nil))) fun H1 e1 Q1 q1 E1 => ⟨c, d, p0, cz, js, q0, rfl, ex_l e1 hc, hcl, hj.ex e1, ndj, sq_of (e1 _ _ hp0), by omega, ok0.2.2, q1⟩) fun f0 H1 hf0 e1 h1 => ?_
    refine q_forLn (xs := .ref p0 :: xr) (ev_var rfl) (sq_of (e1 _ _ he)) (fun i σ' H' => ∃ (f : Addr) (u4 u5 : Option V) (a b : Nat), σ' = [some (.ref c), some (.ref d), some (.ref e), some (.ref f), u4, u5] ∧ Ex H H' ∧ H' f = some (.tup [.int (a : Int), .int (b : Int)]) ∧ (∃ qs ∈ q0 :: L', (a, b) = shr cz qs) ∧ ∀ qs ∈ (q0 :: L').take i, a * (shr cz qs).2 ≤ (shr cz qs).1 * b)
      (fun H2 e2 => ⟨f0, none, none, _, _, rfl, e1.trans e2, e2 _ _ h1, ⟨q0, List.mem_cons_self, rfl⟩, fun qs hq => by simp at hq⟩) (fun i σ' H' _ ⟨_, _, _, _, _, _, eH, _⟩ => sq_of (eH _ _ he)) (fun i x σ' H' hx ⟨f, u4, u5, a, b, eσ, eH, hf, ⟨qa, hqa, eqa⟩, hm⟩ => ?_) (fun σ' H' ⟨f, u4, u5, a, b, eσ, eH, hf, hin, hm⟩ => ?_)
    · subst eσ
      obtain ⟨qs, hqs, p, rfl, hp⟩ := paired_get pr hx
      have okq := ch.ok qs (List.mem_of_getElem? hqs)
      have oka := ch.ok qa hqa
      have hb1 : b = qa.length := congrArg Prod.snd eqa
      have hb0 : 0 < b := by
        rw [hb1]
        exact List.length_pos_iff.mpr oka.1
      refine q_asgU (xs := [.int ((shr cz qs).1 : Nat), .int ((shr cz qs).2 : Nat)]) (eu_call (ea_cons (ev_var rfl) (ea_cons (ev_var rfl) (ea_cons (ev_var rfl) ea_nil))) fun H2 e2 Q2 q2 E2 => ⟨c, d, p, cz, js, qs, rfl, ex_l (eH.trans e2) hc, hcl, hj.ex (eH.trans e2), ndj, sq_of ((eH.trans e2) _ _ hp), by omega, okq.2.2, q2⟩) fun g H2 hg e2 h2 => ?_
      have tk : (q0 :: L').take (i + 1) = (q0 :: L').take i ++ [qs] := by rw [List.take_add_one, hqs]; rfl
      have y5 : (shr cz qs).2 ≤ 1000 := by
        show qs.length ≤ 1000
        omega
      refine s_when (et_B (ev_call (z := .bl (decide ((shr cz qs).1 * b < a * (shr cz qs).2))) (ea_cons (ev_var rfl) (ea_cons (ev_var rfl) ea_nil)) fun H3 e3 Q3 q3 E3 => ⟨g, f, (shr cz qs).1, (shr cz qs).2, a, b, rfl, e3 _ _ h2, (e2.trans e3) _ _ hf, y5, by omega, q3⟩)) (fun hlt H3 e3 => ?_) (fun hlt H3 e3 => ?_)
      · have hlt := of_decide_eq_true hlt
        refine s_asg (ev_var rfl) fun H4 e4 => ⟨g, _, _, (shr cz qs).1, (shr cz qs).2, rfl, ((eH.trans e2).trans e3).trans e4, (e3.trans e4) _ _ h2, ⟨qs, List.mem_of_getElem? hqs, rfl⟩, fun q hq => ?_⟩
        rw [tk] at hq
        rcases List.mem_append.mp hq with hq | hq
        · exact min_nat hb0 hlt (hm q hq)
        · rw [List.mem_singleton] at hq
          subst hq
          exact Nat.le_refl _
      · have hge := Nat.not_lt.mp (of_decide_eq_false hlt)
        refine ⟨f, _, _, a, b, rfl, (eH.trans e2).trans e3, (e2.trans e3) _ _ hf, ⟨qa, hqa, eqa⟩, fun q hq => ?_⟩
        rw [tk] at hq
        rcases List.mem_append.mp hq with hq | hq
        · exact hm q hq
        · rw [List.mem_singleton] at hq
          subst hq
          exact hge
    · subst eσ
      have ll : (V.ref p0 :: xr).length = (q0 :: L').length := paired_len pr
      rw [ll, List.take_length] at hm
      exact s_ret (ev_var rfl) fun H2 e2 => k f H2 a b (eH.trans e2) (e2 _ _ hf) hin hm
/-! ### who pays -/
theorem putK_le (kvs : List (Key × V)) (k : Key) (v : V) : (putK kvs k v).length ≤ kvs.length + 1 := by
  cases e : valV kvs k with
  | none =>
    rw [putK_new v e, List.length_append]
    exact Nat.le_refl _
  | some u =>
    rw [putK_old v e, List.length_map]
    omega
/-- one more who pays -/
theorem keys_put {kvs : List (Key × V)} {js PL : List Job} {j : Job} (v : V) (ndj : (js.map fun j => j.num).Nodup) (hk : kvs.map (·.1) = PL.map jkey) (hP : ∀ x ∈ PL, x ∈ js) (hj : j ∈ js) : ∃ PL' : List Job, (putK kvs (jkey j) v).map (·.1) = PL'.map jkey ∧ ∀ x, x ∈ PL' ↔ x ∈ PL ∨ x = j := by
  cases e : valV kvs (jkey j) with
  | none =>
    refine ⟨PL ++ [j], ?_, fun x => by simp⟩
    rw [putK_new v e, List.map_append, List.map_append, hk]
    rfl
  | some u =>
    refine ⟨PL, ?_, fun x => ⟨Or.inl, fun h => h.elim id fun z => ?_⟩⟩
    · rw [putK_old v e, List.map_map, ← hk]
      refine List.map_congr_left fun kv _ => ?_
      show (if kv.1 = jkey j then (kv.1, v) else kv).1 = kv.1
      split <;> rfl
    · subst z
      have z : (kvs.any fun kv => decide (kv.1 = jkey x)) = true := by
        rw [valV_any, e]
        rfl
      obtain ⟨kv, h1, h2⟩ := List.any_eq_true.mp z
      have h2 := of_decide_eq_true h2
      have h3 : kv.1 ∈ PL.map jkey := by
        rw [← hk]
        exact List.mem_map.mpr ⟨kv, h1, rfl⟩
      obtain ⟨y, hy, e3⟩ := List.mem_map.mp h3
      rw [h2] at e3
      have e4 : y.num = x.num := by
        have z := Sum.inl.inj e3
        omega
      rw [← JM.nodup_inj ndj (hP y hy) hj e4]
      exact hy
def spWhoPay (K : PySem.W.Frag) : Sp := fun vs H Q _ => ∃ (c d e f : Addr) (cz : List Nat) (js : List Job) (L : List (List Job)) (a b : Nat), vs = [.ref c, .ref d, .ref e, .ref f] ∧ SqL K H c (nums cz) ∧ cz.length ≤ 1000 ∧ JobsAt H d js ∧ (js.map fun j => j.num).Nodup ∧ ChAt H e js L ∧
  H f = some (.tup [.int (a : Int), .int (b : Int)]) ∧ b ≤ 1000 ∧
  ∀ (r : Addr) (H2 : Hp) (kvs : List (Key × V)) (PL : List Job), H r = none → Ex H H2 → H2 r = some (.dK kvs) → kvs.map (·.1) = PL.map jkey → (∀ j, j ∈ PL ↔ ∃ qs ∈ L, (shr cz qs).1 * b ≤ a * (shr cz qs).2 ∧ j ∈ qs) → kvs.length ≤ 10000 → Q (.ref r) H2
theorem scWhoPay : FnScope ["costs", "jobs", "choices", "least", "payers", "choice", "number"] ["costs", "jobs", "choices", "least"] (defScope sWhoPay) := ⟨rfl, rfl, rfl, by decide +kernel, rfl, by decide +kernel, by decide +kernel⟩
theorem ok_whoPay (F : DefAt K mg "who_pay" sWhoPay ["costs", "jobs", "choices", "least"]) (cS : Cal P w K mg base 3 "share_in" (spShare K)) (cI : Cal P w K mg base 1 "is_less" spLess) : Cal P w K mg base 4 "who_pay" (spWhoPay K) := by
  refine F.cal scWhoPay (fun vs H Q E h => ?_) (fun f cdv A outer s H vs Q E hr h => ⟨_, pss_cons (ps_set (i := 4) scWhoPay.nd rfl (Or.inl rfl) pe_dnewK)
    (pss_cons (ps_for PassesOwn.never rfl (pi_list (pv 2)) (pg_name (i := 5) scWhoPay.nd rfl (Or.inl rfl))
      (pss_one (ps_if (pt_not (pt_val (pe_c cI hr (by decide) (by rfl) (pa_cons (pv 3) (pa_cons (pe_c cS hr (by decide) (by rfl) (pa_cons (pv 0) (pa_cons (pv 1) (pa_cons (pv 5) pa_nil)))) pa_nil)))))
        (pss_one (ps_for PassesOwn.never rfl (pi_list (pv 5)) (pg_name (i := 6) scWhoPay.nd rfl (Or.inl rfl)) (pss_one (ps_dput (hu_of hr) (pv 4) (pv 6) pe_bl rfl)))) pss_nil)))
    (pss_one (ps_ret (pv 4)))), ?_⟩)
  · obtain ⟨c, d, e, f, cz, js, L, a, b, rfl, _⟩ := h
    rfl
  · obtain ⟨c, d, e, f, cz, js, L, a, b, rfl, hc, hcl, hj, ndj, ch, hf, hb, k⟩ := h
    obtain ⟨xs, he, pr⟩ := ch.ex
    have few := ch.few
    intro r hr0
    refine q_forLn (xs := xs) (ev_var rfl) (sq_of (by rw [upd_ne (ne_of_none he hr0)]; exact he)) (fun i σ' H' => ∃ (u5 u6 : Option V) (kvs : List (Key × V)) (PL : List Job), σ' = [some (.ref c), some (.ref d), some (.ref e), some (.ref f), some (.ref r), u5, u6] ∧ Ex H H' ∧ H' r = some (.dK kvs) ∧ kvs.map (·.1) = PL.map jkey ∧ (∀ j, j ∈ PL ↔ ∃ qs ∈ L.take i, (shr cz qs).1 * b ≤ a * (shr cz qs).2 ∧ j ∈ qs) ∧ kvs.length ≤ 100 * i)
      (fun H2 e2 => ⟨none, none, [], [], rfl, (Ex.new hr0).trans e2, e2 _ _ upd_same, rfl, fun j => by simp, Nat.le_refl _⟩) (fun i σ' H' _ ⟨_, _, _, _, _, eH, _⟩ => sq_of (eH _ _ he)) (fun i x σ' H' hx ⟨u5, u6, kvs, PL, eσ, eH, hr', hk, hP, hkl⟩ => ?_) (fun σ' H' ⟨u5, u6, kvs, PL, eσ, eH, hr', hk, hP, hkl⟩ => ?_)
    · subst eσ
      obtain ⟨qs, hqs, p, rfl, hp⟩ := paired_get pr hx
      have okq := ch.ok qs (List.mem_of_getElem? hqs)
      have hi : i < L.length := (List.getElem?_eq_some_iff.mp hqs).1
      have tk : L.take (i + 1) = L.take i ++ [qs] := by rw [List.take_add_one, hqs]; rfl
      have y5 : (shr cz qs).2 ≤ 1000 := by
        show qs.length ≤ 1000
        omega
      have hPj : ∀ x ∈ PL, x ∈ js := fun x hx => by
        obtain ⟨q, hq, _, hxq⟩ := (hP x).mp hx
        exact (ch.ok q (List.mem_of_mem_take hq)).2.2 x hxq
      refine s_when (et_not (a := decide (a * (shr cz qs).2 < (shr cz qs).1 * b)) (et_B ?_)) (fun hlt H3 e3 => ?_) (fun hlt H3 e3 => ?_)
      · refine ep_ev (R := fun v _ => v = .bl (decide (a * (shr cz qs).2 < (shr cz qs).1 * b))) (ep_call (RA := fun vs H' => ∃ v vs', vs = v :: vs' ∧ v = .ref f ∧ ∃ v2 vs2, vs' = v2 :: vs2 ∧ (∃ g, v2 = .ref g ∧ H' g = some (.tup [.int ((shr cz qs).1 : Nat), .int ((shr cz qs).2 : Nat)])) ∧ vs2 = [])
          (epa_cons stb_eq (ep_v (ev_var rfl)) (epa_cons stb_at (ep_u (eu_call (ea_cons (ev_var rfl) (ea_cons (ev_var rfl) (ea_cons (ev_var rfl) ea_nil))) fun H2 e2 Q2 q2 E2 => ⟨c, d, p, cz, js, qs, rfl, ex_l (eH.trans e2) hc, hcl, hj.ex (eH.trans e2), ndj, sq_of ((eH.trans e2) _ _ hp), by omega, okq.2.2, q2⟩)) epa_nil)) ?_) (fun _ _ h => h)
        rintro vs H2 e2 ⟨v, vs', rfl, rfl, v2, vs2, rfl, ⟨g, rfl, hg⟩, rfl⟩ Q2 q2
        exact ⟨f, g, a, b, (shr cz qs).1, (shr cz qs).2, rfl, (eH.trans e2) _ _ hf, hg, hb, y5, fun H3 e3 => q2 _ H3 e3 rfl⟩
      · rw [Bool.not_eq_true'] at hlt
        have hge := Nat.not_lt.mp (of_decide_eq_false hlt)
        have eH3 := eH.trans e3
        have hr3 := e3 _ _ hr'
        refine s_forLn (xs := nmV qs) (ev_var rfl) (sq_of (eH3 _ _ hp)) (fun m σ' H' => ∃ (u6 : Option V) (kvs : List (Key × V)) (PL : List Job), σ' = [some (.ref c), some (.ref d), some (.ref e), some (.ref f), some (.ref r), some (.ref p), u6] ∧ Ex H H' ∧ H' r = some (.dK kvs) ∧ kvs.map (·.1) = PL.map jkey ∧ (∀ j, j ∈ PL ↔ (∃ qs ∈ L.take i, (shr cz qs).1 * b ≤ a * (shr cz qs).2 ∧ j ∈ qs) ∨ j ∈ qs.take m) ∧ kvs.length ≤ 100 * i + m)
          (fun H4 e4 => ⟨_, kvs, PL, rfl, eH3.trans e4, e4 _ _ hr3, hk, fun j => by rw [hP j]; simp, by omega⟩) (fun m σ' H' _ ⟨_, _, _, _, eH', _⟩ => sq_of (eH' _ _ hp)) (fun m y σ' H' hy ⟨u6', kvs', PL', eσ', eH', hr'', hk', hP', hkl'⟩ => ?_) (fun σ' H' ⟨u6', kvs', PL', eσ', eH', hr'', hk', hP', hkl'⟩ => ?_)
        · subst eσ'
          obtain ⟨j, hjq, rfl⟩ := map_get hy
          have hjs := okq.2.2 j (List.mem_of_getElem? hjq)
          have hm : m < qs.length := (List.getElem?_eq_some_iff.mp hjq).1
          have hPj' : ∀ x ∈ PL', x ∈ js := fun x hx => by
            rcases (hP' x).mp hx with ⟨q, hq, _, hxq⟩ | hxq
            · exact (ch.ok q (List.mem_of_mem_take hq)).2.2 x hxq
            · exact okq.2.2 x (List.mem_of_mem_take hxq)
          refine s_dput (d := r) (kvs := kvs') (k := jkey j) (v := .bl true) ev_c (ev_var rfl) (ev_var rfl) hr'' (by omega) fun H5 e5 => ?_
          obtain ⟨PL2, hk2, hP2⟩ := keys_put (.bl true) ndj hk' hPj' hjs
          have tm : qs.take (m + 1) = qs.take m ++ [j] := by rw [List.take_add_one, hjq]; rfl
          refine ⟨_, putK kvs' (jkey j) (.bl true), PL2, rfl, (eH'.trans e5).mut hr0, upd_same, hk2, fun x => ?_, Nat.le_trans (putK_le _ _ _) (by omega)⟩
          rw [hP2, hP', tm, List.mem_append, List.mem_singleton, or_assoc]
        · subst eσ'
          refine ⟨_, _, kvs', PL', rfl, eH', hr'', hk', fun j => ?_, by rw [List.length_map] at hkl'; omega⟩
          rw [hP', List.length_map, List.take_length, tk]
          constructor
          · rintro (⟨q, hq, h1, h2⟩ | h)
            · exact ⟨q, List.mem_append_left _ hq, h1, h2⟩
            · exact ⟨qs, List.mem_append_right _ List.mem_cons_self, hge, h⟩
          · rintro ⟨q, hq, h1, h2⟩
            rcases List.mem_append.mp hq with hq | hq
            · exact Or.inl ⟨q, hq, h1, h2⟩
            · rw [List.mem_singleton] at hq
              subst hq
              exact Or.inr h2
      · rw [Bool.not_eq_false'] at hlt
        have hlt := of_decide_eq_true hlt
        refine ⟨_, _, kvs, PL, rfl, eH.trans e3, e3 _ _ hr', hk, fun j => ?_, by omega⟩
        rw [hP, tk]
        constructor
        · rintro ⟨q, hq, h1, h2⟩
          exact ⟨q, List.mem_append_left _ hq, h1, h2⟩
        · rintro ⟨q, hq, h1, h2⟩
          rcases List.mem_append.mp hq with hq | hq
          · exact ⟨q, hq, h1, h2⟩
          · rw [List.mem_singleton] at hq
            subst hq
            omega
    · subst eσ
      have ll : xs.length = L.length := paired_len pr
      rw [ll] at hkl hP
      rw [List.take_length] at hP
      exact s_ret (ev_var rfl) fun H2 e2 => k r H2 kvs PL hr0 (eH.trans e2) (e2 _ _ hr') hk hP (by omega)
/-! ### tools paid for -/
def spWithout (K : PySem.W.Frag) : Sp := fun vs H Q _ => ∃ (c : Addr) (cs : List Nat) (t : Nat), vs = [.ref c, .int (t : Int)] ∧ SqL K H c (nums cs) ∧ cs.length ≤ 1000 ∧ RetL (nums (zero cs t)) H Q
theorem scWithout : FnScope ["costs", "tools", "place", "cost"] ["costs", "tools"] (defScope sWithout) := ⟨rfl, rfl, rfl, by decide +kernel, rfl, by decide +kernel, by decide +kernel⟩
theorem ok_without (F : DefAt K mg "without_cost" sWithout ["costs", "tools"]) (B : Blt mg) : Cal P w K mg base 1 "without_cost" (spWithout K) := by
  refine F.cal scWithout (fun vs H Q E h => ?_) (fun f cdv A outer s H vs Q E hr h => ⟨_, pss_one (ps_ret (pe_lc (own := [("place", 2), ("cost", 3)]) (g := gTup K 2 (gCons (gName 2) (gCons (gName 3) gNil))) (tt := tYes) (by rfl) scWithout.nd (pi_enum (by rfl) B.enu (pa_cons (pv 0) pa_nil)) (blkOk_by (own := [("place", 2), ("cost", 3)]) (N := ["costs", "tools", "place", "cost"]) (sc := defScope sWithout) (by decide +kernel))
      (fun _ _ _ _ _ => by exact pg_tup rfl (pgs_cons (pg_name (i := 2) scWithout.nd rfl (Or.inl rfl)) (pgs_cons (pg_name (i := 3) scWithout.nd rfl (Or.inl rfl)) pgs_nil)))
      (fun _ _ _ _ _ => pts_nil) (fun _ _ _ _ _ => by exact pe_ifExp (pt_cmpR op_eq (pe_op op_and (pe_op op_shr (pv 1) (pv 2)) pe_int) pe_int (nomark _)) pe_int (pv 3)))), ?_⟩)
  · obtain ⟨c, cs, t, rfl, _⟩ := h
    rfl
  · obtain ⟨c, cs, t, rfl, hs, hl, k⟩ := h
    refine s_retL (el_is (el_lcE (fun _ => true) (fun i => V.int ((if t.testBit i = true then 0 else cs.getD i 0 : Nat) : Int)) (ev_var rfl) hs (by rw [List.length_map]; omega) (fun _ _ => rfl) (fun i x H1 e1 hx => et_yes) (fun i x H1 e1 hx hf => ?_)) ?_) k
    · obtain ⟨rfl, _⟩ := nums_get hx
      refine ev_if (b := t.testBit i) (et_is (et_test (ev_op (ev_op (ev_op (ev_var rfl) (ev_var rfl) (rv_I (by show (0 : Int) ≤ (i : Int); omega))) ev_c rv_I0) ev_c (rv_eq rfl))) ?_) (fun e => ?_) (fun e => ?_)
      · rw [Int.toNat_natCast, shr_nat, show (1 : Int) = ((1 : Nat) : Int) from rfl, band_nat, Nat.and_one_is_mod, ← JM.bit_test]
        exact dec_nat _ _
      · rw [if_pos e]
        exact ev_c
      · rw [if_neg (by rw [e]; decide)]
        exact ev_var rfl
    · rw [given_all, List.length_map]
      unfold nums zero
      rw [List.map_map]
      rfl
/-! ### all choices -/
def spChoices (K : PySem.W.Frag) : Sp := fun vs H Q _ => ∃ (e : Addr) (js o : List Job), vs = [.ref e] ∧ SqL K H e (nmV o) ∧ o.length ≤ 5 ∧ (∀ j ∈ o, j ∈ js) ∧ ∀ p H2, Ex H H2 → ChAt H2 p js (choices o) → Q (.ref p) H2
theorem scChoices : FnScope ["numbers", "choices", "chosen", "place", "number"] ["numbers"] (defScope sChoices) := ⟨rfl, rfl, rfl, by decide +kernel, rfl, by decide +kernel, by decide +kernel⟩
theorem choices_ok {js o : List Job} (h5 : o.length ≤ 5) (hin : ∀ j ∈ o, j ∈ js) : (choices o).length ≤ 100 ∧ ∀ qs ∈ choices o, qs ≠ [] ∧ qs.length ≤ 100 ∧ ∀ j ∈ qs, j ∈ js := by
  have e2p : 2 ^ o.length ≤ 2 ^ 5 := Nat.pow_le_pow_right (by decide) h5
  refine ⟨?_, fun qs hq => ?_⟩
  · unfold choices
    rw [List.length_map, List.length_range]
    omega
  · obtain ⟨c, hc, rfl⟩ := List.mem_map.mp hq
    have hc := List.mem_range.mp hc
    have z := JM.pop_pos (k := o.length) (S := c + 1) (by omega) (by omega)
    have e : (pickJ o (c + 1)).length = JM.pop o.length (c + 1) := by
      unfold pickJ JM.pop
      rw [List.length_map]
      exact congrArg List.length (List.filter_congr fun i _ => JM.bit_test (c + 1) i)
    have hle : JM.pop o.length (c + 1) ≤ o.length := by
      unfold JM.pop
      exact Nat.le_trans (List.length_filter_le _ _) (by rw [List.length_range]; exact Nat.le_refl _)
    refine ⟨fun y => ?_, by omega, fun j hj => ?_⟩
    · rw [y] at e
      have e : 0 = JM.pop o.length (c + 1) := e
      omega
    · unfold pickJ at hj
      obtain ⟨i, hi, rfl⟩ := List.mem_map.mp hj
      exact hin _ (JM.at_mem (List.mem_range.mp (List.mem_filter.mp hi).1))
theorem ok_choices (F : DefAt K mg "all_choices" sChoices ["numbers"]) (B : Blt mg) : Cal P w K mg base 1 "all_choices" (spChoices K) := by
  refine F.cal scChoices (fun vs H Q E h => ?_) (fun f cdv A outer s H vs Q E hr h => ⟨_, pss_cons (ps_set (i := 1) scChoices.nd rfl (Or.inl rfl) (pe_lst pa_nil))
    (pss_cons (ps_for PassesOwn.never rfl (pi_range2 (by rfl) B.rng (pa_cons pe_int (pa_cons (pe_op op_shl pe_int (pe_callB call_len_seq (by rfl) B.len PySem.boot_len (pa_cons (pv 0) pa_nil))) pa_nil))) (pg_name (i := 2) scChoices.nd rfl (Or.inr rfl))
      (pss_one (ps_expr (pe_bm PySem.F.plainAttrs_list PySem.F.slot_list_append PySem.F.type_list_append mt_append (pv 1) (pa_cons (pe_lc (own := [("place", 3), ("number", 4)]) (g := gTup K 2 (gCons (gName 3) (gCons (gName 4) gNil))) (by rfl) scChoices.nd (pi_enum (by rfl) B.enu (pa_cons (pv 0) pa_nil)) (blkOk_by (own := [("place", 3), ("number", 4)]) (N := ["numbers", "choices", "chosen", "place", "number"]) (sc := defScope sChoices) (by decide +kernel))
        (fun _ _ _ _ _ => by exact pg_tup rfl (pgs_cons (pg_name (i := 3) scChoices.nd rfl (Or.inl rfl)) (pgs_cons (pg_name (i := 4) scChoices.nd rfl (Or.inl rfl)) pgs_nil)))
        (fun _ _ _ _ _ => by exact pts_one (pt_cmpR op_eq (pe_op op_and (pe_op op_shr (pv 2) (pv 3)) pe_int) pe_int (nomark _))) (fun _ _ _ _ _ => by exact pv 4)) pa_nil)))))
    (pss_one (ps_ret (pv 1)))), ?_⟩)
  · obtain ⟨e, js, o, rfl, _⟩ := h
    rfl
  · obtain ⟨e, js, o, rfl, he, h5, hin, k⟩ := h
    have e2p : 2 ^ o.length ≤ 2 ^ 5 := Nat.pow_le_pow_right (by decide) h5
    obtain ⟨cf, cok⟩ := choices_ok h5 hin
    refine q_asgL (xs := []) (el_lst ea_nil (by show 0 ≤ 100000; decide)) fun p H1 hp e1 h1 => ?_
    refine q_forR2 (lo := 1) (n := ((2 ^ o.length : Nat) : Int)) (ea_cons ev_c (ea_cons (ev_is (ev_op ev_c (ev_len (ev_var rfl) (ex_l e1 he)) (rv_I ⟨by omega, by rw [List.length_map]; omega, by decide⟩)) ?_) ea_nil)) ⟨by omega, by omega, Int.le_trans (by decide) (Int.natCast_nonneg _), by omega⟩ (fun i σ' H' => ∃ (u2 u3 u4 : Option V) (xs : List V), σ' = [some (.ref e), some (.ref p), u2, u3, u4] ∧ Ex H H' ∧ H' p = some (.lst xs) ∧ Paired (fun x qs => ChV H' x qs ∧ x ≠ .ref p) xs ((List.range i).map fun c => pickJ o (c + 1)))
      (fun H2 e2 => ⟨none, none, none, [], rfl, e1.trans e2, e2 _ _ h1, .nil⟩) (fun i σ' H' hi ⟨u2, u3, u4, xs, eσ, eH, hp', pr⟩ => ?_) (fun σ' H' ⟨u2, u3, u4, xs, eσ, eH, hp', pr⟩ => ?_)
    · rw [Int.toNat_natCast, Int.one_mul, Int.natCast_pow, List.length_map]
      rfl
    · subst eσ
      have ll := paired_len pr
      rw [List.length_map, List.length_range] at ll
      have e1c : ((1 : Int) + (i : Int)) = ((i + 1 : Nat) : Int) := by omega
      refine s_appL (ys := nmV (pickJ o (i + 1))) hp' (ev_var rfl) (el_is (el_lcE (K := K) (xs := nmV o) (bit (i + 1)) (fun q => V.int ((o.getD q job0).num : Int)) (ev_var rfl) (ex_l eH he) (by rw [List.length_map]; omega) (fun _ _ => rfl) (fun q x H2 e2 hx => ?_) (fun q x H2 e2 hx hf => ?_)) ?_) (by omega) fun q H2 hq e2 h2 => ?_
      · refine et_is (et_test (ev_op (ev_op (ev_op (ev_var rfl) (ev_var rfl) (rv_I (by show (0 : Int) ≤ (q : Int); omega))) ev_c rv_I0) ev_c (rv_eq rfl))) ?_
        rw [e1c, Int.toNat_natCast, shr_nat, show (1 : Int) = ((1 : Nat) : Int) from rfl, band_nat, Nat.and_one_is_mod]
        exact dec_nat _ _
      · obtain ⟨rfl, _⟩ := nmV_get hx
        exact ev_var rfl
      · unfold given pickJ nmV
        rw [List.length_map, List.map_map]
        rfl
      · have nq : q ≠ p := (ne_of_none hp' hq).symm
        refine ⟨_, _, _, xs ++ [.ref q], rfl, (eH.trans e2).mut hp, upd_same, ?_⟩
        rw [List.range_succ, List.map_append]
        refine paired_snoc (Paired.mapP pr fun x y ⟨⟨a, h1, h2⟩, h3⟩ => ⟨⟨a, h1, ?_⟩, h3⟩) ⟨⟨q, rfl, by rw [upd_ne nq]; exact h2⟩, fun z => nq (by injection z)⟩
        rw [upd_ne (fun z => h3 (by rw [h1, z]))]
        exact e2 _ _ h2
    · subst eσ
      have en : (((2 ^ o.length : Nat) : Int) - 1).toNat = 2 ^ o.length - 1 := by omega
      rw [en] at pr
      exact s_ret (ev_var rfl) fun H2 e2 => k p H2 (eH.trans e2) ⟨⟨xs, e2 _ _ hp', ch_ex e2 (Paired.mapP pr fun x y h => h.1)⟩, cf, cok⟩
end
end J
/-! JSharesOf: shares_of and the call shares -/
namespace J
open PySem PySem.Spec PyProof.Rows L2 Evl
open JM (bit costL doneB payL job0 nd zero shr othJ choices pickJ selJ)
open Dr05 (Shop Job)
abbrev sShares : Stmt := top 59
theorem epa_of {ta : TA} {σ : L2.St} {H : Hp} {vs : List V} (h : EvA ta σ H vs) : EvPA ta σ H (fun vs' _ => vs' = vs) := fun H1 e Q q => h H1 e _ fun H2 e2 => q vs H2 e2 rfl
theorem sqD {K : PySem.W.Frag} {H H' : Hp} {a b : Addr} {kvs : List (Key × V)} {xs : List V} (h : SqL K H b xs) (ha : H a = some (.dK kvs)) (e : ExA a H H') : SqL K H' b xs := by
  rcases h with (h | ⟨o, h⟩) | h
  · exact .inl (.inl (e _ _ (ne_of h ha (by intro z; cases z)) h))
  · exact .inl (.inr ⟨o, e _ _ (ne_of h ha (by intro z; cases z)) h⟩)
  · exact .inr h
theorem has_key (kvs : List (Key × V)) (k : Key) : (valV kvs k).isSome = true ↔ k ∈ kvs.map (·.1) := by
  rw [← valV_any, List.any_eq_true, List.mem_map]
  constructor
  · rintro ⟨kv, h1, h2⟩
    exact ⟨kv, h1, of_decide_eq_true h2⟩
  · rintro ⟨kv, h1, h2⟩
    exact ⟨kv, h1, decide_eq_true h2⟩
theorem key_mem {js PL : List Job} {x : Job} (ndj : (js.map fun j => j.num).Nodup) (hP : ∀ y ∈ PL, y ∈ js) (hx : x ∈ js) : jkey x ∈ PL.map jkey ↔ x ∈ PL := by
  rw [List.mem_map]
  constructor
  · rintro ⟨y, hy, e⟩
    have e4 : y.num = x.num := by
      have z := Sum.inl.inj e
      omega
    rw [← JM.nodup_inj ndj (hP y hy) hx e4]
    exact hy
  · intro h
    exact ⟨x, h, rfl⟩
/-- the place p among the shares told till now -/
def ShAt (H : Hp) (pre : List (Nat × Rat)) (kvs : List (Key × V)) (l : List Job) (T p : Nat) : Prop :=
  (T.testBit p = true → ∃ (t : Addr) (x y : Nat), valV kvs (jkey (l.getD p job0)) = some (.ref t) ∧ H t = some (.tup [.int (x : Int), .int (y : Int)]) ∧ y ≠ 0 ∧ y ≤ 1000 ∧ (pre.find? fun q => Dr01.has q.1 (p + 1)).map (fun q => q.2) = some (mkRat (x : Int) y)) ∧
  (T.testBit p = false → (pre.find? fun q => Dr01.has q.1 (p + 1)) = none)
structure ShInv (K : PySem.W.Frag) (s : Shop) (l : List Job) (H : Hp) (sh un ot : Addr) (T n : Nat) (pre : List (Nat × Rat)) (kvs : List (Key × V)) : Prop where
  hT : T < 2 ^ l.length
  un : SqL K H un (nums (zero s.costs (JM.un l T)))
  ot : SqL K H ot (nmV (othJ l T))
  sh : H sh = some (.dK kvs)
  hpre : pre ++ Dr02.fairFrom (Dr05.costOf s l) n T = Dr02.fairFrom (Dr05.costOf s l) l.length 0
  le : (othJ l T).length ≤ n
  few : kvs.length + 10000 * (othJ l T).length ≤ 90000
  at_ : ∀ p, p < l.length → ShAt H pre kvs l T p
theorem ShAt.ex {H H' : Hp} {pre : List (Nat × Rat)} {kvs : List (Key × V)} {l : List Job} {T p : Nat} (h : ShAt H pre kvs l T p) (e : ∀ b xs, H b = some (.tup xs) → H' b = some (.tup xs)) : ShAt H' pre kvs l T p :=
  ⟨fun ht => by
    obtain ⟨t, x, y, h1, h2, h3⟩ := h.1 ht
    exact ⟨t, x, y, h1, e _ _ h2, h3⟩, h.2⟩
theorem ShInv.ex {K : PySem.W.Frag} {s : Shop} {l : List Job} {H H' : Hp} {sh un ot : Addr} {T n : Nat} {pre : List (Nat × Rat)} {kvs : List (Key × V)} (h : ShInv K s l H sh un ot T n pre kvs) (e : Ex H H') : ShInv K s l H' sh un ot T n pre kvs :=
  ⟨h.hT, ex_l e h.un, ex_l e h.ot, e _ _ h.sh, h.hpre, h.le, h.few, fun p hp => (h.at_ p hp).ex fun b xs h' => e _ _ h'⟩
/-- one part more -/
theorem ShAt.next {H H' : Hp} {pre : List (Nat × Rat)} {kvs kvs' : List (Key × V)} {l PL : List Job} {T Pp p a b : Nat} {f : Addr} (h : ShAt H pre kvs l T p) (hd : Pp &&& T = 0) (e : ∀ b xs, H b = some (.tup xs) → H' b = some (.tup xs))
    (hf : H' f = some (.tup [.int (a : Int), .int (b : Int)])) (b0 : b ≠ 0) (b1 : b ≤ 1000) (hin : Pp.testBit p = true → valV kvs' (jkey (l.getD p job0)) = some (.ref f)) (hout : Pp.testBit p = false → valV kvs' (jkey (l.getD p job0)) = valV kvs (jkey (l.getD p job0))) :
    ShAt H' (pre ++ [(Pp, mkRat (a : Int) b)]) kvs' l (T ||| Pp) p := by
  have hz := congrArg (fun n => Nat.testBit n p) hd
  simp only [Nat.testBit_and, Nat.zero_testBit] at hz
  have hh : Dr01.has Pp (p + 1) = Pp.testBit p := JM.has_test Pp p
  unfold ShAt
  rw [Nat.testBit_or, List.find?_append]
  cases hP : Pp.testBit p with
  | true =>
    rw [hP, Bool.true_and] at hz
    refine ⟨fun _ => ⟨f, a, b, hin hP, hf, b0, b1, ?_⟩, fun z => ?_⟩
    · rw [h.2 hz]
      show ((none : Option (Nat × Rat)).or (List.find? _ [(Pp, mkRat (a : Int) b)])).map _ = _
      rw [Option.none_or, List.find?_cons]
      show (match Dr01.has Pp (p + 1) with | true => some (Pp, mkRat (a : Int) b) | false => List.find? _ []).map _ = _
      rw [hh, hP]
      rfl
    · rw [Bool.or_true] at z
      cases z
  | false =>
    have hn : List.find? (fun q : Nat × Rat => Dr01.has q.1 (p + 1)) [(Pp, mkRat (a : Int) b)] = none := by
      rw [List.find?_cons]
      show (match Dr01.has Pp (p + 1) with | true => some (Pp, mkRat (a : Int) b) | false => List.find? _ []) = none
      rw [hh, hP]
      rfl
    rw [hn, Option.or_none, Bool.or_false, hout hP]
    exact h.ex e
def spSharesOf (K : PySem.W.Frag) : Sp := fun vs H Q _ => ∃ (c d e : Addr) (s : Shop) (l : List Job), vs = [.ref c, .ref d, .ref e] ∧ SqL K H c (nums s.costs) ∧ JobsAt H d s.jobs ∧ JM.WF s ∧ SqL K H e (nmV l) ∧ (∀ j ∈ l, j ∈ s.jobs) ∧ (l.map fun j => j.num).Nodup ∧ l.length ≤ 5 ∧
  ∀ (r : Addr) (H2 : Hp) (kvs : List (Key × V)) (g : Nat → Rat), Ex H H2 → H2 r = some (.dK kvs) → Dr02.fairest (Dr05.costOf s l) = (List.range l.length).map g →
    (∀ p, p < l.length → ∃ (t : Addr) (x y : Nat), valV kvs (jkey (l.getD p job0)) = some (.ref t) ∧ H2 t = some (.tup [.int (x : Int), .int (y : Int)]) ∧ y ≠ 0 ∧ y ≤ 1000 ∧ g p = mkRat (x : Int) y) → Q (.ref r) H2
section
variable {P : Program} {w : World} {K : PySem.W.Frag} {mg : Str → Option Value} {base : Heap} {C : Addr}
theorem scSharesOf : FnScope ["costs", "jobs", "numbers", "shares", "unpaid", "others", "choices", "least", "payers", "number"] ["costs", "jobs", "numbers"] (defScope sSharesOf) := ⟨rfl, rfl, rfl, by decide +kernel, rfl, by decide +kernel, by decide +kernel⟩
theorem ok_sharesOf (F : DefAt K mg "shares_of" sSharesOf ["costs", "jobs", "numbers"]) (B : Blt mg) (cCh : Cal P w K mg base 1 "all_choices" (spChoices K)) (cLs : Cal P w K mg base 4 "least_share" (spLeastShare K)) (cWp : Cal P w K mg base 4 "who_pay" (spWhoPay K)) (cWo : Cal P w K mg base 1 "without_cost" (spWithout K)) (cNd : Cal P w K mg base 2 "needed_by" spNeedD) :
    Cal P w K mg base 5 "shares_of" (spSharesOf K) := by
  refine F.cal scSharesOf (fun vs H Q E h => ?_) (fun f cdv A outer s H vs Q E hr h => ⟨_, pss_cons (ps_set (i := 3) scSharesOf.nd rfl (Or.inl rfl) pe_dnewK)
    (pss_cons (ps_set (i := 4) scSharesOf.nd rfl (Or.inl rfl) (pv 0))
    (pss_cons (ps_set (i := 5) scSharesOf.nd rfl (Or.inl rfl) (pv 2))
    (pss_cons (ps_while PassesOwn.never (pt_cmpR op_gt (pe_callB call_len_seq (by rfl) B.len PySem.boot_len (pa_cons (pv 5) pa_nil)) pe_int (nomark _))
      (pss_cons (ps_set (i := 6) scSharesOf.nd rfl (Or.inl rfl) (pe_c cCh hr (by decide) (by rfl) (pa_cons (pv 5) pa_nil)))
      (pss_cons (ps_set (i := 7) scSharesOf.nd rfl (Or.inl rfl) (pe_c cLs hr (by decide) (by rfl) (pa_cons (pv 4) (pa_cons (pv 1) (pa_cons (pv 6) pa_nil)))))
      (pss_cons (ps_set (i := 8) scSharesOf.nd rfl (Or.inr rfl) (pe_c cWp hr (by decide) (by rfl) (pa_cons (pv 4) (pa_cons (pv 1) (pa_cons (pv 6) (pa_cons (pv 7) pa_nil))))))
      (pss_cons (ps_lock (ps_for PassesOwn.never rfl (pi_keys (pv 8)) (pg_name (i := 9) scSharesOf.nd rfl (Or.inl rfl)) (pss_one (ps_dput (hu_of hr) (pv 3) (pv 9) (pv 7) rfl))))
      (pss_cons (ps_set (i := 4) scSharesOf.nd rfl (Or.inl rfl) (pe_c cWo hr (by decide) (by rfl) (pa_cons (pv 4) (pa_cons (pe_c cNd hr (by decide) (by rfl) (pa_cons (pv 1) (pa_cons (pv 8) pa_nil))) pa_nil))))
      (pss_one (ps_setLc (i := 5) (own := [("number", 9)]) (g := gName 9) (tt := tB (tDNotIn (tVar 9) (tVar 8))) (te := tVar 9)
        (by rfl) scSharesOf.nd rfl rfl (sw_true rfl rfl rfl (by decide +kernel)) (pi_list (pv 5)) (blkOk_by (own := [("number", 9)]) (N := ["costs", "jobs", "numbers", "shares", "unpaid", "others", "choices", "least", "payers", "number"]) (sc := defScope sSharesOf) (by decide +kernel))
        (fun _ _ _ _ _ => pg_name (i := 9) scSharesOf.nd rfl (Or.inl rfl)) (fun _ _ _ _ _ => pts_one (pt_cmp (pc_dnotin (hu_of hr) (pv 9) (pv 8)))) (fun _ _ _ _ _ => pv 9)))))))))
    (pss_one (ps_ret (pv 3)))))), ?_⟩)
  · obtain ⟨c, d, e, s, l, rfl, _⟩ := h
    rfl
  · obtain ⟨c, d, e, s, l, rfl, hc, hj, wf, he, hin, ndl, l5, k⟩ := h
    have c5 := wf.c5
    intro sh hs0
    refine q_asg (ev_var rfl) fun H1 e1 => q_asg (ev_var rfl) fun H2 e2 => ?_
    have e02 : Ex H H2 := ((Ex.new hs0).trans e1).trans e2
    have hsh2 : H2 sh = some (.dK []) := (e1.trans e2) _ _ upd_same
    have oth0 : othJ l 0 = l := by
      unfold othJ
      rw [List.filter_eq_self.mpr fun p _ => by rw [Nat.zero_testBit]; rfl, JM.getD_range]
    refine q_while (fun m σ' H' => ∃ (un ot T n : Nat) (pre : List (Nat × Rat)) (kvs : List (Key × V)) (u6 u7 u8 u9 : Option V), σ' = [some (.ref c), some (.ref d), some (.ref e), some (.ref sh), some (.ref un), some (.ref ot), u6, u7, u8, u9] ∧ Ex H H' ∧ ShInv K s l H' sh un ot T n pre kvs ∧ m = (othJ l T).length) l.length ?_ ?_
    · refine ⟨c, e, 0, l.length, [], [], none, none, none, none, rfl, e02, ⟨Nat.two_pow_pos _, ?_, ?_, hsh2, rfl, JM.oth_len l 0, ?_, fun p hp => ⟨fun z => ?_, fun _ => rfl⟩⟩, by rw [oth0]⟩
      · rw [JM.un_zero, JM.zero_no]
        exact ex_l e02 hc
      · rw [oth0]
        exact ex_l e02 he
      · rw [oth0]
        show 0 + _ ≤ 90000
        omega
      · rw [Nat.zero_testBit] at z
        cases z
    · rintro m σ' H' ⟨un, ot, T, n, pre, kvs, u6, u7, u8, u9, rfl, eH, I, rfl⟩
      refine ⟨decide (0 < (othJ l T).length), et_is (et_test (ev_op (ev_len (ev_var rfl) I.ot) ev_c rv_I0)) (by rw [List.length_map]; exact dec_gt _ 0), fun hpos H3 e3 => ?_, fun hz H3 e3 => ?_⟩
      · have hpos := of_decide_eq_true hpos
        have one : othJ l T ≠ [] := List.length_pos_iff.mp hpos
        have I3 := I.ex e3
        have eH3 := eH.trans e3
        have olen := JM.oth_len l T
        have hoj : ∀ j ∈ othJ l T, j ∈ s.jobs := fun j hj' => by
          unfold othJ at hj'
          obtain ⟨p, hp, rfl⟩ := List.mem_map.mp hj'
          exact hin _ (JM.at_mem (List.mem_range.mp (List.mem_filter.mp hp).1))
        have czl : (zero s.costs (JM.un l T)).length ≤ 1000 := by
          rw [JM.zero_len]
          omega
        have chne : choices (othJ l T) ≠ [] := by
          unfold choices
          intro z
          have z := congrArg List.length z
          rw [List.length_map, List.length_range] at z
          have y : 2 ^ 1 ≤ 2 ^ (othJ l T).length := Nat.pow_le_pow_right (by decide) hpos
          have z : 2 ^ (othJ l T).length - 1 = 0 := z
          omega
        refine ⟨fun σ2 H2 => ∃ m', m' < (othJ l T).length ∧ ∃ (un ot T n : Nat) (pre : List (Nat × Rat)) (kvs : List (Key × V)) (u6 u7 u8 u9 : Option V), σ2 = [some (.ref c), some (.ref d), some (.ref e), some (.ref sh), some (.ref un), some (.ref ot), u6, u7, u8, u9] ∧ Ex H H2 ∧ ShInv K s l H2 sh un ot T n pre kvs ∧ m' = (othJ l T).length, fun σ2 H2 h => h, ?_⟩
        refine q_asgP (R := fun v H' => ∃ ch, v = .ref ch ∧ ChAt H' ch s.jobs (choices (othJ l T))) (ep_call (epa_of (ea_cons (ev_var rfl) ea_nil)) ?_) fun v H4 e4 ⟨ch, ev, hch⟩ => ?_
        · rintro vs H4 e4 rfl Q4 q4
          exact ⟨ot, s.jobs, othJ l T, rfl, ex_l e4 I3.ot, by omega, hoj, fun p H5 e5 h5 => q4 _ H5 e5 ⟨p, rfl, h5⟩⟩
        · subst ev
          have I4 := I3.ex e4
          have eH4 := eH3.trans e4
          refine q_asgP (R := fun v H' => ∃ f a b, v = .ref f ∧ H' f = some (.tup [.int ((a : Nat) : Int), .int ((b : Nat) : Int)]) ∧ (∃ qs ∈ choices (othJ l T), (a, b) = shr (zero s.costs (JM.un l T)) qs) ∧ ∀ qs ∈ choices (othJ l T), a * (shr (zero s.costs (JM.un l T)) qs).2 ≤ (shr (zero s.costs (JM.un l T)) qs).1 * b) (ep_call (epa_of (ea_cons (ev_var rfl) (ea_cons (ev_var rfl) (ea_cons (ev_var rfl) ea_nil)))) ?_) fun v H5 e5 ⟨ff, a, b, ev, hff, hqa, hqm⟩ => ?_
          · rintro vs H5 e5 rfl Q5 q5
            exact ⟨un, d, ch, _, s.jobs, _, rfl, ex_l e5 I4.un, czl, hj.ex (eH4.trans e5), wf.nd, hch.mono e5, chne, fun f H6 a b e6 h6 h7 h8 => q5 _ H6 e6 ⟨f, a, b, rfl, h6, h7, h8⟩⟩
          · subst ev
            have I5 := I4.ex e5
            have eH5 := eH4.trans e5
            obtain ⟨b0, Pp, hpoor, hPl, hPT, hP0, htb⟩ := JM.part I.hT one hqa hqm
            have b1 : b ≤ 1000 := by
              obtain ⟨qs, hq, e⟩ := hqa
              have z := (hch.ok qs hq).2.1
              have y : b = qs.length := congrArg Prod.snd e
              omega
            refine q_asgP (R := fun v H' => ∃ (r : Addr) (kvp : List (Key × V)) (PL : List Job), v = .ref r ∧ H5 r = none ∧ H' r = some (.dK kvp) ∧ kvp.map (·.1) = PL.map jkey ∧ (∀ j, j ∈ PL ↔ ∃ qs ∈ choices (othJ l T), (shr (zero s.costs (JM.un l T)) qs).1 * b ≤ a * (shr (zero s.costs (JM.un l T)) qs).2 ∧ j ∈ qs) ∧ kvp.length ≤ 10000)
              (ep_call (epa_of (ea_cons (ev_var rfl) (ea_cons (ev_var rfl) (ea_cons (ev_var rfl) (ea_cons (ev_var rfl) ea_nil))))) ?_) fun v H6 e6 ⟨r, kvp, PL, ev, hr0, hr6, hkp, hPL, hkl⟩ => ?_
            · rintro vs H6 e6 rfl Q6 q6
              exact ⟨un, d, ch, ff, _, s.jobs, _, a, b, rfl, ex_l e6 I5.un, czl, hj.ex (eH5.trans e6), wf.nd, hch.mono (e5.trans e6), e6 _ _ hff, b1, fun r H7 kvp PL h1 e7 h7 h8 h9 h10 => q6 _ H7 e7 ⟨r, kvp, PL, rfl, fresh_back e6 h1, h7, h8, h9, h10⟩⟩
            · subst ev
              have I6 := I5.ex e6
              have eH6 := eH5.trans e6
              have hff6 := e6 _ _ hff
              have nsr : sh ≠ r := ne_of_none I5.sh hr0
              have hPs : ∀ j, j ∈ PL ↔ j ∈ selJ l Pp := fun j => by
                rw [hPL, JM.sel_mem]
                constructor
                · rintro ⟨qs, hq, ht, hjq⟩
                  obtain ⟨S, hS, rfl⟩ := (JM.mem_choices l qs).mp hq
                  obtain ⟨p, hp, h1, h2⟩ := JM.sel_mem.mp hjq
                  exact ⟨p, hp, (htb p).mpr ⟨S, hS, ht, h1⟩, h2⟩
                · rintro ⟨p, hp, h1, h2⟩
                  obtain ⟨S, hS, ht, h3⟩ := (htb p).mp h1
                  exact ⟨selJ l S, (JM.mem_choices l _).mpr ⟨S, hS, rfl⟩, ht, JM.sel_mem.mpr ⟨p, hp, h3, h2⟩⟩
              have hPj : ∀ j ∈ PL, j ∈ s.jobs := fun j hj' => by
                obtain ⟨p, hp, _, rfl⟩ := JM.sel_mem.mp ((hPs j).mp hj')
                exact hin _ (JM.at_mem hp)
              have key_at : ∀ p, p < l.length → (jkey (l.getD p job0) ∈ kvp.map (·.1) ↔ Pp.testBit p = true) := fun p hp => by
                rw [hkp, key_mem wf.nd hPj (hin _ (JM.at_mem hp)), hPs, JM.sel_mem]
                constructor
                · rintro ⟨q, hq, h1, h2⟩
                  rw [← JM.at_inj ndl hq hp (by rw [h2])]
                  exact h1
                · intro h1
                  exact ⟨p, hp, h1, rfl⟩
              refine q_forK (kvs := kvp) (d := r) hr6 (fun od => ev_var rfl) (fun od i σ' H' => ∃ (u9 : Option V) (kvi : List (Key × V)), σ' = [some (.ref c), some (.ref d), some (.ref e), some (.ref sh), some (.ref un), some (.ref ot), some (.ref ch), some (.ref ff), some (.ref r), u9] ∧ H' r = some (.frz od (.dK kvp)) ∧ H' sh = some (.dK kvi) ∧ (∀ b o, b ≠ r → b ≠ sh → H6 b = some o → H' b = some o) ∧
                (∀ k, k ∈ (kvp.take i).map (·.1) → valV kvi k = some (.ref ff)) ∧ (∀ k, ¬ k ∈ (kvp.take i).map (·.1) → valV kvi k = valV kvs k) ∧ kvi.length ≤ kvs.length + i)
                (fun od H7 e7 => ⟨_, kvs, rfl, e7 _ _ upd_same, e7 _ _ (by rw [upd_ne nsr]; exact I6.sh), fun b o n1 n2 h => e7 _ _ (by rw [upd_ne n1]; exact h), fun k hk => by simp at hk, fun k _ => rfl, Nat.le_refl _⟩) (fun od i σ' H' hi ⟨_, _, _, h, _⟩ => h) (fun od i kk vv σ' H' R BB hk ⟨u9', kvi, eσ, h1, h2, h3, h4, h5, h6⟩ => ?_) (fun od σ' H' ⟨u9', kvi, eσ, h1, h2, h3, h4, h5, h6⟩ => ?_)
              · subst eσ
                have hi : i < kvp.length := (List.getElem?_eq_some_iff.mp hk).1
                have few := I.few
                have tk : (kvp.take (i + 1)).map (·.1) = (kvp.take i).map (·.1) ++ [kk] := by rw [List.take_add_one, hk, List.map_append]; rfl
                refine s_dput (d := sh) (kvs := kvi) (k := kk) (v := .ref ff) (ev_var rfl) (ev_var rfl) (ev_var rfl) h2 (by omega) fun H7 e7 => ⟨_, putK kvi kk (.ref ff), rfl, ?_, upd_same, fun b o n1 n2 h => ?_, fun k hk' => ?_, fun k hk' => ?_, Nat.le_trans (putK_le _ _ _) (by omega)⟩
                · rw [upd_ne nsr.symm]
                  exact e7 _ _ h1
                · rw [upd_ne n2]
                  exact e7 _ _ (h3 b o n1 n2 h)
                · rw [valV_put]
                  split
                  · rfl
                  · rename_i hne
                    rw [tk] at hk'
                    rcases List.mem_append.mp hk' with hk' | hk'
                    · exact h4 k hk'
                    · exact absurd (List.mem_singleton.mp hk') hne
                · rw [tk, List.mem_append, List.mem_singleton, not_or] at hk'
                  rw [valV_put, if_neg hk'.2]
                  exact h5 k hk'.1
              · subst eσ
                rw [List.take_length] at h4 h5
                have xA : ExA sh H6 (upd H' r (.dK kvp)) := fun b o n h => by
                  by_cases hb : b = r
                  · subst hb
                    rw [upd_same, ← h, hr6]
                  · rw [upd_ne hb]
                    exact h3 b o hb n h
                have eH7 : Ex H (upd H' r (.dK kvp)) := fun b o h => xA b o (ne_of_none h hs0) (eH6 _ _ h)
                have tp : ∀ b xs, H6 b = some (.tup xs) → upd H' r (.dK kvp) b = some (.tup xs) := fun b xs h => xA _ _ (ne_of h I6.sh (by intro z; cases z)) h
                have hun7 := sqD I6.un I6.sh xA
                have hot7 := sqD I6.ot I6.sh xA
                have hr7 : upd H' r (.dK kvp) r = some (.dK kvp) := upd_same
                have hsh7 : upd H' r (.dK kvp) sh = some (.dK kvi) := by
                  rw [upd_ne nsr]
                  exact h2
                have hf7 := tp _ _ hff6
                have PLl : PL.length ≤ 20000 := by
                  have z := congrArg List.length hkp
                  rw [List.length_map, List.length_map] at z
                  omega
                have ndr : d ≠ r := by
                  obtain ⟨kvj, hd, _⟩ := hj.ex eH5
                  exact ne_of_none hd hr0
                have few := I.few
                have hT' : T ||| Pp < 2 ^ l.length := JM.or_lt I.hT hPl
                have hlt := JM.oth_lt hPl hP0 hPT
                generalize upd H' r (.dK kvp) = HX at *
                refine q_asgL (xs := nums (zero s.costs (JM.un l (T ||| Pp)))) (el_call (ea_cons (ev_var rfl) (ea_cons (ev_call (z := .int (nd PL : Nat)) (ea_cons (ev_var rfl) (ea_cons (ev_var rfl) ea_nil)) fun H8 e8 Q8 q8 E8 => ⟨d, r, s.jobs, PL, kvp, rfl, hj.ex (eH7.trans e8), wf.nd, e8 _ _ hr7, ndr, hkp, PLl, hPj, q8⟩) ea_nil)) fun H8 e8 Q8 q8 E8 => ⟨un, zero s.costs (JM.un l T), nd PL, rfl, ex_l e8 hun7, czl, ?_⟩) fun un' H8 hun' e8 h8 => ?_
                · rw [JM.zero_zero, JM.nd_pay hPs, ← JM.un_or]
                  exact q8
                · refine s_asgL (xs := nmV (othJ l (T ||| Pp))) (el_is (el_lcL (xs := nmV (othJ l T)) (fun i => !(valV kvp (jkey ((othJ l T).getD i job0))).isSome) (fun i => V.int (((othJ l T).getD i job0).num : Int)) (ev_var rfl) (ex_l e8 hot7) (by rw [List.length_map]; omega) (fun _ => rfl) (fun i x H9 e9 hx => ?_) (fun i x H9 e9 hx _ => ?_)) ?_) fun ot' H9 hot' e9 h9 => ?_
                  · obtain ⟨rfl, _⟩ := nmV_get hx
                    exact et_B (ev_dnotin (k := jkey ((othJ l T).getD i job0)) (ev_var rfl) (ev_var rfl) (Rd.of ((e8.trans e9) _ _ hr7)))
                  · obtain ⟨rfl, _⟩ := nmV_get hx
                    exact ev_var rfl
                  · rw [List.length_map, ← JM.oth_next (T := T) ndl (fun j => !(valV kvp (jkey j)).isSome) fun p hp => ?_]
                    · unfold given nmV
                      rw [← filter_range (othJ l T) job0 (fun j => !(valV kvp (jkey j)).isSome), List.map_map]
                      rfl
                    · refine congrArg not ?_
                      rw [Bool.eq_iff_iff, has_key, key_at p hp]
                  · obtain ⟨n', rfl⟩ : ∃ n', n = n' + 1 := ⟨n - 1, by have := I.le; omega⟩
                    have Ile := I.le
                    have Ipre := I.hpre
                    rw [JM.fair_more (JM.oth_ne I.hT one) hpoor] at Ipre
                    refine ⟨(othJ l (T ||| Pp)).length, hlt, un', ot', T ||| Pp, n', pre ++ [(Pp, mkRat (a : Int) b)], kvi, _, _, _, _, rfl, (eH7.trans e8).trans e9, ⟨hT', sq_of (e9 _ _ h8), sq_of h9, (e8.trans e9) _ _ hsh7, ?_, by omega, by omega, fun p hp => ?_⟩, rfl⟩
                    · rw [List.append_assoc]
                      exact Ipre
                    · refine (I6.at_ p hp).next (PL := PL) hPT (fun b xs h => (e8.trans e9) _ _ (tp b xs h)) ((e8.trans e9) _ _ hf7) b0 b1 (fun h => h4 _ ((key_at p hp).mpr h)) (fun h => h5 _ fun z => ?_)
                      rw [(key_at p hp).mp z] at h
                      cases h
      · have hz := of_decide_eq_false hz
        have e0 : othJ l T = [] := List.length_eq_zero_iff.mp (by omega)
        have eT := JM.oth_all I.hT e0
        have Ipre := I.hpre
        rw [JM.fair_end eT, List.append_nil] at Ipre
        have I3 := I.ex e3
        have bt : ∀ p, p < l.length → T.testBit p = true := fun p hp => by
          rw [eT, Nat.testBit_two_pow_sub_one, decide_eq_true hp]
        refine s_ret (ev_var rfl) fun H4 e4 => k sh H4 kvs (fun p => ((pre.find? fun q => Dr01.has q.1 (p + 1)).map fun q => q.2).getD 0) ((eH.trans e3).trans e4) (e4 _ _ I3.sh) (JM.fairest_at Ipre _ fun p hp => ?_) fun p hp => ?_
        · obtain ⟨t, x, y, _, _, _, _, h⟩ := (I.at_ p hp).1 (bt p hp)
          rw [h]
          rfl
        · obtain ⟨t, x, y, h1, h2, h3, h4, h⟩ := (I3.at_ p hp).1 (bt p hp)
          exact ⟨t, x, y, h1, e4 _ _ h2, h3, h4, by show Option.getD _ _ = _; rw [h]; rfl⟩
theorem scShares : FnScope ["shop", "numbers", "tools", "done", "shares", "told", "number"] ["shop", "numbers"] (defScope sShares) := ⟨rfl, rfl, rfl, by decide +kernel, rfl, by decide +kernel, by decide +kernel⟩
def toldS (l : List Job) (g : Nat → Rat) (i : Nat) : List Int := (List.range i).flatMap fun p => ((l.getD p job0).num : Int) :: Dr05.fraction (g p)
theorem toldS_succ (l : List Job) (g : Nat → Rat) (i : Nat) : toldS l g (i + 1) = toldS l g i ++ (((l.getD i job0).num : Int) :: Dr05.fraction (g i)) := by
  unfold toldS
  rw [List.range_succ, List.flatMap_append, List.flatMap_singleton]
theorem toldS_len (l : List Job) (g : Nat → Rat) : ∀ i, (toldS l g i).length = 3 * i
  | 0 => rfl
  | i + 1 => by
    rw [toldS_succ, List.length_append, toldS_len l g i]
    show _ + 3 = _
    omega
theorem shares_told {s : Shop} {t : Nat} {g : Nat → Rat} (h : Dr02.fairest (Dr05.costOf s (s.jobs.filter (doneB t))) = (List.range (s.jobs.filter (doneB t)).length).map g) :
    ((((Dr05.shares s t).length : Nat) : Int) :: (Dr05.shares s t).flatMap fun x => (x.1.num : Int) :: Dr05.fraction x.2) = (((s.jobs.filter (doneB t)).length : Nat) : Int) :: toldS (s.jobs.filter (doneB t)) g (s.jobs.filter (doneB t)).length := by
  have e : Dr05.shares s t = (List.range (s.jobs.filter (doneB t)).length).map fun p => ((s.jobs.filter (doneB t)).getD p job0, g p) := by
    unfold Dr05.shares
    rw [JM.done_eq, h]
    generalize s.jobs.filter (doneB t) = l
    have z := JM.getD_range l job0
    have y : l.zip ((List.range l.length).map g) = ((List.range l.length).map fun p => l.getD p job0).zip ((List.range l.length).map g) := by rw [z]
    rw [y, List.zip_map']
  rw [e, List.length_map, List.length_range, List.flatMap_map]
  rfl
theorem ok_shares (F : DefAt K mg "tell_shares" sShares ["shop", "numbers"]) (B : Blt mg) (T : Cl K C) (G : Csts mg) (cS : Cal P w K mg base 2 "is_set" (spIsSet K)) (cD : Cal P w K mg base 2 "done_with" spDone) (cSh : Cal P w K mg base 5 "shares_of" (spSharesOf K)) (cF : Cal P w K mg base 2 "lowest_terms" spLow) :
    Cal P w K mg base 6 "tell_shares" (spH K C 12) := by
  refine F.cal scShares (fun vs H Q E h => spH_len h) (fun f cdv A outer s H vs Q E hr h => ⟨_, pss_cons (ps_set (i := 2) scShares.nd rfl (Or.inl rfl) (pe_ix ix_list (pv 1) pe_int (fun _ _ => rfl)))
    (pss_cons (ps_if (pt_not (pt_val (pe_c cS hr (by decide) (by rfl) (pa_cons (pe_fld (pv 0) rfl) (pa_cons (pv 2) pa_nil))))) (pss_one (ps_ret (pe_lst (pa_cons (pe_gc G.taken (by rfl)) pa_nil)))) pss_nil)
    (pss_cons (ps_set (i := 3) scShares.nd rfl (Or.inl rfl) (pe_c cD hr (by decide) (by rfl) (pa_cons (pe_fld (pv 0) rfl) (pa_cons (pv 2) pa_nil))))
    (pss_cons (ps_set (i := 4) scShares.nd rfl (Or.inl rfl) (pe_c cSh hr (by decide) (by rfl) (pa_cons (pe_fld (pv 0) rfl) (pa_cons (pe_fld (pv 0) rfl) (pa_cons (pv 3) pa_nil)))))
    (pss_cons (ps_set (i := 5) scShares.nd rfl (Or.inl rfl) (pe_lst (pa_cons (pe_callB call_len_seq (by rfl) B.len PySem.boot_len (pa_cons (pv 3) pa_nil)) pa_nil)))
    (pss_cons (ps_for PassesOwn.never rfl (pi_list (pv 3)) (pg_name (i := 6) scShares.nd rfl (Or.inl rfl))
      (pss_cons (ps_expr (pe_bm PySem.F.plainAttrs_list PySem.F.slot_list_append PySem.F.type_list_append mt_append (pv 5) (pa_cons (pv 6) pa_nil)))
      (pss_one (ps_expr (pe_bm PySem.F.plainAttrs_list PySem.F.slot_list_extend PySem.F.type_list_extend mt_extend (pv 5) (pa_cons (pe_c cF hr (by decide) (by rfl) (pa_cons (pe_ix ix_tup (pe_dget (hu_of hr) (pv 4) (pv 6) (fun _ _ => rfl)) pe_int (fun _ _ => rfl)) (pa_cons (pe_ix ix_tup (pe_dget (hu_of hr) (pv 4) (pv 6) (fun _ _ => rfl)) pe_int (fun _ _ => rfl)) pa_nil))) pa_nil))))))
    (pss_one (ps_ret (pv 5)))))))), ?_⟩)
  obtain ⟨a, b, c, d, dx, s, ns, cl, rfl, S, wf, hb, hcl, k⟩ := h
  obtain ⟨t, rfl, rfl⟩ := JM.in12 hcl
  refine q_asg (ev_op (ev_var rfl) ev_c (rv_ixL hb (v := .int (t : Int)) (atI_nat (j := 0) rfl))) fun H1 e1 => ?_
  have S1 := S.ex e1
  have c5 := wf.c5
  have j5 := wf.j5
  refine q_when (et_not (a := decide (t < 2 ^ s.costs.length)) (et_B (ev_call (ea_cons (ev_costs T S1 (ev_var rfl)) (ea_cons (ev_var rfl) ea_nil)) fun H3 e3 Q3 q3 E3 => ⟨c, nums s.costs, t, rfl, sq_of ((S1.ex e3).cs), by rw [List.length_map]; omega, by rw [List.length_map]; exact q3⟩))) (fun e H2 e2 => ?_) (fun e H2 e2 => ?_)
  · have k' : RetC C H a c d dx (s, [-1]) Q := by
      have q : Dr05.step s (.shares t) = (s, [-1]) := by
        unfold Dr05.step
        dsimp only
        rw [if_pos]
        rw [Bool.not_eq_true'] at e
        exact e
      rw [q] at k
      exact k
    exact s_retL (el_lst (ea_cons ev_c ea_nil) (by show 1 ≤ 100000; decide)) fun p H3 hp e3 h3 => k'.asks S p H3 (fresh_back (e1.trans e2) hp) ((e1.trans e2).trans e3) h3
  · rw [Bool.not_eq_false'] at e
    have q : Dr05.step s (.shares t) = (s, (((Dr05.shares s t).length : Nat) : Int) :: (Dr05.shares s t).flatMap fun x => (x.1.num : Int) :: Dr05.fraction x.2) := by
      unfold Dr05.step
      dsimp only
      rw [if_neg]
      have z : Dr05.isSet s t = true := e
      rw [z]
      decide
    rw [q] at k
    have e02 := e1.trans e2
    have S2 := S.ex e02
    have hlen : (s.jobs.filter (doneB t)).length ≤ 5 := Nat.le_trans (List.length_filter_le _ _) j5
    have hlin : ∀ j ∈ s.jobs.filter (doneB t), j ∈ s.jobs := fun j hj => (List.mem_filter.mp hj).1
    have hlnd : ((s.jobs.filter (doneB t)).map fun j => j.num).Nodup := List.Nodup.sublist (List.Sublist.map _ List.filter_sublist) wf.nd
    have htold := @shares_told s t
    obtain ⟨l, hl⟩ : ∃ l, s.jobs.filter (doneB t) = l := ⟨_, rfl⟩
    rw [hl] at hlen hlin hlnd htold
    refine q_asgL (xs := nmV l) (el_call (ea_cons (ev_jobs T S2 (ev_var rfl)) (ea_cons (ev_var rfl) ea_nil)) fun H3 e3 Q3 q3 E3 => ⟨d, s.jobs, t, rfl, (S2.ex e3).js, wf.nd, by omega, by rw [hl]; exact q3⟩) fun pd H3 hpd e3 h3 => ?_
    have S3 := S2.ex e3
    refine q_asgP (R := fun v H' => ∃ (r : Addr) (kvs : List (Key × V)) (g : Nat → Rat), v = .ref r ∧ H' r = some (.dK kvs) ∧ Dr02.fairest (Dr05.costOf s l) = (List.range l.length).map g ∧
      ∀ p, p < l.length → ∃ (t : Addr) (x y : Nat), valV kvs (jkey (l.getD p job0)) = some (.ref t) ∧ H' t = some (.tup [.int (x : Int), .int (y : Int)]) ∧ y ≠ 0 ∧ y ≤ 1000 ∧ g p = mkRat (x : Int) y) (ep_call (epa_of (ea_cons (ev_costs T S3 (ev_var rfl)) (ea_cons (ev_jobs T S3 (ev_var rfl)) (ea_cons (ev_var rfl) ea_nil)))) ?_) fun v H4 e4 ⟨r, kvs, g, ev, hr4, hg, hat⟩ => ?_
    · rintro vs H4 e4 rfl Q4 q4
      exact ⟨c, d, pd, s, l, rfl, sq_of (S3.ex e4).cs, (S3.ex e4).js, wf, sq_of (e4 _ _ h3), hlin, hlnd, hlen, fun r H5 kvs g e5 h5 h6 h7 => q4 _ H5 e5 ⟨r, kvs, g, rfl, h5, h6, h7⟩⟩
    · subst ev
      rw [htold hg] at k
      have h4 := e4 _ _ h3
      have e04 := (e02.trans e3).trans e4
      refine q_asgL (xs := [.int (l.length : Nat)]) (el_lst (ea_cons (ev_is (ev_len (ev_var rfl) (sq_of h4)) (by rw [List.length_map])) ea_nil) (by show 1 ≤ 100000; decide)) fun tl H5 htl e5 h5 => ?_
      refine q_forLn (xs := nmV l) (ev_var rfl) (sq_of (e5 _ _ h4)) (fun i σ' H' => ∃ u6, σ' = [some (.ref a), some (.ref b), some (.int (t : Int)), some (.ref pd), some (.ref r), some (.ref tl), u6] ∧ Ex H4 H' ∧ H' tl = some (.lst (((l.length : Int) :: toldS l g i).map V.int)))
        (fun H6 e6 => ⟨none, rfl, e5.trans e6, e6 _ _ h5⟩) (fun i σ' H' _ ⟨_, _, eH, _⟩ => sq_of (eH _ _ h4)) (fun i x σ' H' hx ⟨u6, eσ, eH, ht'⟩ => ?_) (fun σ' H' ⟨u6, eσ, eH, ht'⟩ => ?_)
      · subst eσ
        obtain ⟨rfl, hi⟩ := nmV_get hx
        obtain ⟨t1, x, y, v1, v2, y0, y1, eg⟩ := hat i hi
        have tlen := toldS_len l g i
        have hr' := eH _ _ hr4
        refine q_app ht' (ev_var rfl) (ev_var rfl) (by rw [List.length_map, List.length_cons, tlen]; omega) fun H6 e6 => ?_
        have nrt : r ≠ tl := ne_of_none hr4 htl
        have ntt : t1 ≠ tl := ne_of_none v2 htl
        have hr6 : upd H6 tl (.lst (((l.length : Int) :: toldS l g i).map V.int ++ [.int ((l.getD i job0).num : Int)])) r = some (.dK kvs) := by
          rw [upd_ne nrt]
          exact e6 _ _ hr'
        have ht6 : upd H6 tl (.lst (((l.length : Int) :: toldS l g i).map V.int ++ [.int ((l.getD i job0).num : Int)])) t1 = some (.tup [.int (x : Int), .int (y : Int)]) := by
          rw [upd_ne ntt]
          exact e6 _ _ (eH _ _ v2)
        refine s_extNL (ys := (Dr05.fraction (g i)).map V.int) upd_same (ev_var rfl) (el_call (ea_cons (ev_op (ev_dget (k := jkey (l.getD i job0)) (ev_var rfl) (ev_var rfl) (Rd.of hr6) v1) ev_c (rv_ixT (st_of ht6) (atI_nat (j := 0) rfl))) (ea_cons (ev_op (ev_dget (k := jkey (l.getD i job0)) (ev_var rfl) (ev_var rfl) (Rd.of hr6) v1) ev_c (rv_ixT (st_of ht6) (atI_nat (j := 1) rfl))) ea_nil)) fun H7 e7 Q7 q7 E7 => ⟨x, y, rfl, y0, by omega, by rw [← eg]; exact q7⟩)
          (by rw [List.length_append, List.length_map, List.length_cons, tlen]; show _ + 1 + 2 ≤ 100000; omega) fun H7 e7 => ⟨_, rfl, ?_, ?_⟩
        · exact ((((eH.trans e6).mut htl).trans e7).mut htl)
        · rw [upd_same, toldS_succ]
          simp only [List.map_append, List.map_cons, List.append_assoc, List.cons_append, List.nil_append]
      · subst eσ
        rw [List.length_map] at ht'
        exact s_ret (ev_var rfl) fun H6 e6 => k.asks S tl H6 (fresh_back e04 htl) (e04.trans (eH.trans e6)) (e6 _ _ ht')
end
end J
namespace J
open PySem PySem.Spec PyProof.Rows L2 Evl
theorem all_mk {P : Program} {w : World} {K : PySem.W.Frag} {h : Heap} {mg : Str → Option Value} {fa C fI fA : Addr} {od1 an1 od2 an2 : Option Addr} {sl1 sl2 : Array (Option Value)} {oc1 kV1 dc1 pm1 cd1 ct1 oc2 kV2 dc2 pm2 cd2 ct2 : Value} {e23 e61 e67 f23_0 f23_1 f23_2 f23_3 f23_4 f61_5 f61_6 f61_7 f61_8 f61_9 f61_10 f61_11 f61_12 f61_13 : Addr}
    (X : K.In h) (G : h.Ns mainGlobals mg) (hfa : mg "answers" = some (.ref fa))
    (aC : PySem.W.nsIn K mainGlobals "Shop" = some (some (.ref C)))
    (a1 : PySem.W.findIn K (.ref C) "__init__" = some (some (.ref fI))) (i1 : PySem.W.isFn K (.ref fI) = true) (l1 : K.lookup fI = some ⟨oc1, od1, .func (PySem.W.fnOf "__init__" "Shop.__init__" (defArgs sInit) (defBody sInit) (defScope sInit) .none kV1 dc1 pm1 an1 cd1 ct1), sl1⟩) (c1 : PySem.W.codeIn K cd1 "Shop.__init__" = true) (k1 : PySem.W.keepIn K (.ref fI) = true)
    (a2 : PySem.W.nsIn K mainGlobals "answers" = some (some (.ref fA))) (l2 : K.lookup fA = some ⟨oc2, od2, .func (PySem.W.fnOf "answers" "answers" (defArgs sAnswers) (defBody sAnswers) (defScope sAnswers) .none kV2 dc2 pm2 an2 cd2 ct2), sl2⟩) (c2 : PySem.W.codeIn K cd2 "answers" = true) (k2 : PySem.W.keepIn K (.ref fA) = true)
    (pg : PySem.W.plainGet K C Str.empty = true) (hd : PySem.W.hasDictIn K C = true) (po : PySem.W.plainOver K C = true) (sa : PySem.W.findIn K (.ref C) "__setattr__" = some (some (.builtin "object.__setattr__"))) (mk : PySem.W.makesIn K C = true) (kc : PySem.W.keepIn K (.ref C) = true)
    (nC : PySem.W.findIn K (.ref C) "costs" = some none) (nJ : PySem.W.findIn K (.ref C) "jobs" = some none) (nL : PySem.W.findIn K (.ref C) "last_number" = some none)
    (d8 : DefAt K mg "how_many_sets" (top 8) ["costs"])
    (d9 : DefAt K mg "all_sets" (top 9) ["costs"])
    (d10 : DefAt K mg "is_set" (top 10) ["costs", "tools"])
    (d11 : DefAt K mg "is_tool" (top 11) ["costs", "tool"])
    (d12 : DefAt K mg "set_of_one" (top 12) ["tool"])
    (d13 : DefAt K mg "has_all" (top 13) ["tools", "needs"])
    (d14 : DefAt K mg "cost_of" (top 14) ["costs", "tools"])
    (d15 : DefAt K mg "what_all_have" (top 15) ["sets"])
    (d16 : DefAt K mg "what_some_has" (top 16) ["sets"])
    (d18 : DefAt K mg "tell_tools" (top 18) ["shop", "costs"])
    (d19 : DefAt K mg "add_job" (top 19) ["shop", "numbers"])
    (d20 : DefAt K mg "drop_job" (top 20) ["shop", "numbers"])
    (d21 : DefAt K mg "set_pay" (top 21) ["shop", "numbers"])
    (d22 : DefAt K mg "set_cost" (top 22) ["shop", "numbers"])
    (d24 : DefAt K mg "is_change" (top 24) ["call"])
    (d25 : DefAt K mg "change" (top 25) ["shop", "call", "numbers"])
    (d27 : DefAt K mg "done_with" (top 27) ["jobs", "tools"])
    (d28 : DefAt K mg "paid_with" (top 28) ["jobs", "tools"])
    (d29 : DefAt K mg "left_by" (top 29) ["costs", "jobs", "tools"])
    (d30 : DefAt K mg "most_left" (top 30) ["costs", "jobs", "sets"])
    (d31 : DefAt K mg "best_of" (top 31) ["costs", "jobs", "sets"])
    (d32 : DefAt K mg "worth_having" (top 32) ["costs", "jobs"])
    (d34 : DefAt K mg "costs_at" (top 34) ["costs", "factor"])
    (d35 : DefAt K mg "jobs_at" (top 35) ["jobs", "factor"])
    (d36 : DefAt K mg "least_at" (top 36) ["costs", "jobs", "factor"])
    (d37 : DefAt K mg "next_factor" (top 37) ["costs", "jobs", "least"])
    (d38 : DefAt K mg "least_sets" (top 38) ["costs", "jobs"])
    (d40 : DefAt K mg "greatest_divisor" (top 40) ["one", "other"])
    (d41 : DefAt K mg "lowest_terms" (top 41) ["above", "below"])
    (d43 : DefAt K mg "all_choices" (top 43) ["numbers"])
    (d44 : DefAt K mg "needed_by" (top 44) ["jobs", "numbers"])
    (d45 : DefAt K mg "share_in" (top 45) ["costs", "jobs", "choice"])
    (d46 : DefAt K mg "is_less" (top 46) ["share", "other"])
    (d47 : DefAt K mg "least_share" (top 47) ["costs", "jobs", "choices"])
    (d48 : DefAt K mg "who_pay" (top 48) ["costs", "jobs", "choices", "least"])
    (d49 : DefAt K mg "without_cost" (top 49) ["costs", "tools"])
    (d50 : DefAt K mg "shares_of" (top 50) ["costs", "jobs", "numbers"])
    (d52 : DefAt K mg "tell_best" (top 52) ["shop", "numbers"])
    (d53 : DefAt K mg "look_at" (top 53) ["shop", "numbers"])
    (d54 : DefAt K mg "tell_times" (top 54) ["shop", "numbers"])
    (d55 : DefAt K mg "tell_steps" (top 55) ["shop", "numbers"])
    (d56 : DefAt K mg "tell_lacks" (top 56) ["shop", "numbers"])
    (d57 : DefAt K mg "tell_spare" (top 57) ["shop", "numbers"])
    (d58 : DefAt K mg "tell_money" (top 58) ["shop", "numbers"])
    (d59 : DefAt K mg "tell_shares" (top 59) ["shop", "numbers"])
    (d60 : DefAt K mg "tell_jobs" (top 60) ["shop", "numbers"])
    (d62 : DefAt K mg "ask" (top 62) ["shop", "call", "numbers"])
    (d68 : DefAt K mg "first_number" (top 68) ["calls", "place"])
    (d69 : DefAt K mg "how_many_numbers" (top 69) ["calls", "place"])
    (d70 : DefAt K mg "answer" (top 70) ["shop", "call", "numbers"])
    (g0 : Cst mg "MOST_TOOLS" (.int 5))
    (g1 : Cst mg "MOST_JOBS" (.int 5))
    (g2 : Cst mg "HIGHEST_PRICE" (.int 1000))
    (g3 : Cst mg "HIGHEST_TERM" (.int 1000))
    (g4 : Cst mg "NOT_TAKEN" (.int (-1)))
    (g5 : Cst mg "NO_SUCH_JOB" (.int (-2)))
    (g6 : Cst mg "JOBS_FULL" (.int (-5)))
    (g66 : Cst mg "TOOLS" (.int 0))
    (z0 : mg "len" = none)
    (z1 : mg "sum" = none)
    (z2 : mg "max" = none)
    (z3 : mg "enumerate" = none)
    (z4 : mg "range" = none)
    (z5 : mg "list" = none)
    (g23 : Cst mg "CHANGES" (.ref e23))
    (m23_0 : mg "tell_tools" = some (.ref f23_0))
    (m23_1 : mg "add_job" = some (.ref f23_1))
    (m23_2 : mg "drop_job" = some (.ref f23_2))
    (m23_3 : mg "set_pay" = some (.ref f23_3))
    (m23_4 : mg "set_cost" = some (.ref f23_4))
    (t23 : KTab K e23 (tabOf [(0, f23_0), (1, f23_1), (2, f23_2), (3, f23_3), (4, f23_4)]))
    (g61 : Cst mg "QUESTIONS" (.ref e61))
    (m61_5 : mg "tell_best" = some (.ref f61_5))
    (m61_6 : mg "look_at" = some (.ref f61_6))
    (m61_7 : mg "tell_times" = some (.ref f61_7))
    (m61_8 : mg "tell_steps" = some (.ref f61_8))
    (m61_9 : mg "tell_lacks" = some (.ref f61_9))
    (m61_10 : mg "tell_spare" = some (.ref f61_10))
    (m61_11 : mg "tell_money" = some (.ref f61_11))
    (m61_12 : mg "tell_shares" = some (.ref f61_12))
    (m61_13 : mg "tell_jobs" = some (.ref f61_13))
    (t61 : KTab K e61 (tabOf [(5, f61_5), (6, f61_6), (7, f61_7), (8, f61_8), (9, f61_9), (10, f61_10), (11, f61_11), (12, f61_12), (13, f61_13)]))
    (g67 : Cst mg "NUMBERS" (.ref e67))
    (t67 : KTab K e67 [(1, .int 2), (2, .int 1), (3, .int 2), (4, .int 2), (5, .int 0), (6, .int 1), (7, .int 2), (8, .int 0), (9, .int 1), (10, .int 1), (11, .int 1), (12, .int 1), (13, .int 0)]) :
    ∃ fd : FuncData, (∀ (s : Shared) (us : List Value), us.length = (["calls"] : List Str).length → BindsTo s fd ⟨us, []⟩ ((["calls"] : List Str).zip us)) ∧ ∀ base : Heap, K.In base → base.Ns mainGlobals mg → FnOk P w K mg base CX0 13 fa fd ["calls"] (spAns K) := by
  have e := hfa.symm.trans (PySem.W.mg_of X G a2)
  cases e
  have T : Cl K C := ⟨⟨pg, hd, po, sa⟩, nC, nJ, nL⟩
  have F1 := fun_mk (st := sInit) l1 c1 k1
  have F2 := fun_mk (st := sAnswers) l2 c2 k2
  have b1 := F1.binds (ps := ["self"]) fun _ _ _ _ _ _ us hl => match us, hl with | [_], _ => rfl
  refine ⟨PySem.W.fnOf "answers" "answers" (defArgs sAnswers) (defBody sAnswers) (defScope sAnswers) .none kV2 dc2 pm2 an2 cd2 ct2, fun s us hu => match us, hu with | [_], _ => .of_eq rfl, fun base _ _ => ?_⟩
  -- LEVEL 13
  have B : Blt mg := ⟨z0, z1, z2, z3, z4, z5⟩
  have Gc : Csts mg := ⟨g0, g1, g2, g3, g4, g5, g6⟩
  have q8 := ok_how (P := P) (w := w) (base := base) d8 B
  have q9 := ok_allSets d9 B q8
  have q10 := ok_isSet d10 q8
  have q11 := ok_isTool (P := P) (w := w) (base := base) d11 B
  have q12 := ok_one (P := P) (w := w) (base := base) d12
  have q13 := ok_hasAll (P := P) (w := w) (base := base) d13
  have q14 := ok_cost (P := P) (w := w) (base := base) d14 B
  have q15 := ok_allHave (P := P) (w := w) (base := base) d15
  have q16 := ok_someHas (P := P) (w := w) (base := base) d16
  have q18 := ok_tell (P := P) (w := w) (base := base) d18 B T Gc
  have q19 := ok_add d19 B T Gc q10
  have q20 := ok_drop (P := P) (w := w) (base := base) d20 B T Gc
  have q21 := ok_pay (P := P) (w := w) (base := base) d21 B T Gc
  have q22 := ok_setCost d22 B T Gc q11
  have q27 := ok_done d27 q13
  have q28 := ok_paid d28 B q27
  have q29 := ok_left d29 q28 q14
  have q30 := ok_most d30 B q29
  have q31 := ok_bestOf d31 q30 q29
  have q32 := ok_worth d32 q31 q9
  have q34 := ok_costsAt (P := P) (w := w) (base := base) d34
  have q35 := ok_jobsAt (P := P) (w := w) (base := base) d35
  have q36 := ok_leastAt d36 q15 q32 q34 q35
  have q37 := ok_next d37 q28 q14 q9
  have q38 := ok_leastSets d38 q36 q14 q37
  have q40 := ok_gcd (P := P) (w := w) (base := base) d40
  have q41 := ok_low d41 q40
  have q43 := ok_choices (P := P) (w := w) (base := base) d43 B
  have q44 := ok_needL d44 q16
  have q44d := ok_needD d44 q16
  have q45 := ok_share d45 B q44 q14
  have q46 := ok_less (P := P) (w := w) (base := base) d46
  have q47 := ok_leastShare d47 q45 q46
  have q48 := ok_whoPay d48 q45 q46
  have q49 := ok_without (P := P) (w := w) (base := base) d49 B
  have q50 := ok_sharesOf d50 B q43 q47 q48 q49 q44d
  have q52 := ok_best d52 B T q32 q29 q15 q16
  have q53 := ok_look d53 B T Gc q10 q27 q29 q14
  have q54 := ok_times d54 T Gc q34 q35 q32 q29 q41 q15 q16
  have q55 := ok_steps d55 B T q38 q41
  have q56 := ok_lacks d56 T Gc q9 q13 q30
  have q57 := ok_spare d57 T Gc q11 q12 q9 q13 q30
  have q58 := ok_money d58 T q9 q14 q31 q29
  have q59 := ok_shares d59 B T Gc q10 q27 q50 q41
  have q60 := ok_jobs (P := P) (w := w) (base := base) d60 B T
  have t1 : TabAt P w K mg base C 3 "CHANGES" e23 [(0, f23_0), (1, f23_1), (2, f23_2), (3, f23_3), (4, f23_4)] := ⟨g23, t23, by
    intro p hp
    simp only [List.mem_cons, List.not_mem_nil, or_false] at hp
    rcases hp with rfl | rfl | rfl | rfl | rfl
    · exact ⟨_, by decide, q18.held m23_0⟩
    · exact ⟨_, by decide, q19.held m23_1⟩
    · exact ⟨_, by decide, q20.held m23_2⟩
    · exact ⟨_, by decide, q21.held m23_3⟩
    · exact ⟨_, by decide, q22.held m23_4⟩⟩
  have t2 : TabAt P w K mg base C 10 "QUESTIONS" e61 [(5, f61_5), (6, f61_6), (7, f61_7), (8, f61_8), (9, f61_9), (10, f61_10), (11, f61_11), (12, f61_12), (13, f61_13)] := ⟨g61, t61, by
    intro p hp
    simp only [List.mem_cons, List.not_mem_nil, or_false] at hp
    rcases hp with rfl | rfl | rfl | rfl | rfl | rfl | rfl | rfl | rfl
    · exact ⟨_, by decide, q52.held m61_5⟩
    · exact ⟨_, by decide, q53.held m61_6⟩
    · exact ⟨_, by decide, q54.held m61_7⟩
    · exact ⟨_, by decide, q55.held m61_8⟩
    · exact ⟨_, by decide, q56.held m61_9⟩
    · exact ⟨_, by decide, q57.held m61_10⟩
    · exact ⟨_, by decide, q58.held m61_11⟩
    · exact ⟨_, by decide, q59.held m61_12⟩
    · exact ⟨_, by decide, q60.held m61_13⟩⟩
  have q24 := ok_isChange d24 t1
  have q25 := ok_change d25 t1
  have q62 := ok_ask d62 t2
  have q70 := ok_answer (j := 11) (ok := fun k => k ≤ 13) (by
    intro k hk
    simp only [List.map_cons, List.map_nil, List.mem_cons, List.not_mem_nil, or_false]
    omega) (by decide) (by decide) (by decide) d70 q24 q25 q62
  have q68 := ok_first (P := P) (w := w) (base := base) d68 g66
  have q69 := ok_many (P := P) (w := w) (base := base) d69 g66 g67 t67
  exact ok_answers (j := 12) F2 B T ⟨mk, a1, i1, kc⟩ (PySem.W.mg_of X G aC) (ok_init F1 T) b1 q68 q69 q70 (by decide)
end J
open PySem PySem.W PyProof.Rows
set_option maxRecDepth 100000 in
set_option maxHeartbeats 8000000 in
theorem PySem.Challenge.cw_jobtools_s01_answers_holds : PySem.Challenge.rw_jobtools_s01_answers.Holds := by
  w_on; k_headS; (case hw => exact ⟨[.list [.int 5]], by decide +kernel, by decide +kernel⟩)
  k_fillS
  refine L2.walk_specK (r := PySem.Challenge.rw_jobtools_s01_answers) (k := 13) (CX := L2.CX0) (ps := ["calls"]) (sp := J.spAns) (by decide +kernel) rfl rfl ⟨rfl, by decide, by decide⟩ (fun w h Y => PySem.W.kIn_of Y) ?F ?S (fun _ _ _ _ z => z)
  case F =>
    intro w mg fa h Y KX G hmg
    refine' J.all_mk KX G hmg ?aC ?b1 ?i1 ?m1 ?n1 ?o1 ?b2 ?m2 ?n2 ?o2 ?pg ?hd ?po ?sa ?mk ?kc ?nC ?nJ ?nL (J.def_at KX G (fun _ _ _ _ _ _ us hl => match us, hl with | [_], _ => rfl) ?a8 ?l8 ?c8 ?k8) (J.def_at KX G (fun _ _ _ _ _ _ us hl => match us, hl with | [_], _ => rfl) ?a9 ?l9 ?c9 ?k9) (J.def_at KX G (fun _ _ _ _ _ _ us hl => match us, hl with | [_, _], _ => rfl) ?a10 ?l10 ?c10 ?k10) (J.def_at KX G (fun _ _ _ _ _ _ us hl => match us, hl with | [_, _], _ => rfl) ?a11 ?l11 ?c11 ?k11) (J.def_at KX G (fun _ _ _ _ _ _ us hl => match us, hl with | [_], _ => rfl) ?a12 ?l12 ?c12 ?k12) (J.def_at KX G (fun _ _ _ _ _ _ us hl => match us, hl with | [_, _], _ => rfl) ?a13 ?l13 ?c13 ?k13) (J.def_at KX G (fun _ _ _ _ _ _ us hl => match us, hl with | [_, _], _ => rfl) ?a14 ?l14 ?c14 ?k14) (J.def_at KX G (fun _ _ _ _ _ _ us hl => match us, hl with | [_], _ => rfl) ?a15 ?l15 ?c15 ?k15) (J.def_at KX G (fun _ _ _ _ _ _ us hl => match us, hl with | [_], _ => rfl) ?a16 ?l16 ?c16 ?k16) (J.def_at KX G (fun _ _ _ _ _ _ us hl => match us, hl with | [_, _], _ => rfl) ?a18 ?l18 ?c18 ?k18) (J.def_at KX G (fun _ _ _ _ _ _ us hl => match us, hl with | [_, _], _ => rfl) ?a19 ?l19 ?c19 ?k19) (J.def_at KX G (fun _ _ _ _ _ _ us hl => match us, hl with | [_, _], _ => rfl) ?a20 ?l20 ?c20 ?k20) (J.def_at KX G (fun _ _ _ _ _ _ us hl => match us, hl with | [_, _], _ => rfl) ?a21 ?l21 ?c21 ?k21) (J.def_at KX G (fun _ _ _ _ _ _ us hl => match us, hl with | [_, _], _ => rfl) ?a22 ?l22 ?c22 ?k22) (J.def_at KX G (fun _ _ _ _ _ _ us hl => match us, hl with | [_], _ => rfl) ?a24 ?l24 ?c24 ?k24) (J.def_at KX G (fun _ _ _ _ _ _ us hl => match us, hl with | [_, _, _], _ => rfl) ?a25 ?l25 ?c25 ?k25) (J.def_at KX G (fun _ _ _ _ _ _ us hl => match us, hl with | [_, _], _ => rfl) ?a27 ?l27 ?c27 ?k27) (J.def_at KX G (fun _ _ _ _ _ _ us hl => match us, hl with | [_, _], _ => rfl) ?a28 ?l28 ?c28 ?k28) (J.def_at KX G (fun _ _ _ _ _ _ us hl => match us, hl with | [_, _, _], _ => rfl) ?a29 ?l29 ?c29 ?k29) (J.def_at KX G (fun _ _ _ _ _ _ us hl => match us, hl with | [_, _, _], _ => rfl) ?a30 ?l30 ?c30 ?k30) (J.def_at KX G (fun _ _ _ _ _ _ us hl => match us, hl with | [_, _, _], _ => rfl) ?a31 ?l31 ?c31 ?k31) (J.def_at KX G (fun _ _ _ _ _ _ us hl => match us, hl with | [_, _], _ => rfl) ?a32 ?l32 ?c32 ?k32) (J.def_at KX G (fun _ _ _ _ _ _ us hl => match us, hl with | [_, _], _ => rfl) ?a34 ?l34 ?c34 ?k34) (J.def_at KX G (fun _ _ _ _ _ _ us hl => match us, hl with | [_, _], _ => rfl) ?a35 ?l35 ?c35 ?k35) (J.def_at KX G (fun _ _ _ _ _ _ us hl => match us, hl with | [_, _, _], _ => rfl) ?a36 ?l36 ?c36 ?k36) (J.def_at KX G (fun _ _ _ _ _ _ us hl => match us, hl with | [_, _, _], _ => rfl) ?a37 ?l37 ?c37 ?k37) (J.def_at KX G (fun _ _ _ _ _ _ us hl => match us, hl with | [_, _], _ => rfl) ?a38 ?l38 ?c38 ?k38) (J.def_at KX G (fun _ _ _ _ _ _ us hl => match us, hl with | [_, _], _ => rfl) ?a40 ?l40 ?c40 ?k40) (J.def_at KX G (fun _ _ _ _ _ _ us hl => match us, hl with | [_, _], _ => rfl) ?a41 ?l41 ?c41 ?k41) (J.def_at KX G (fun _ _ _ _ _ _ us hl => match us, hl with | [_], _ => rfl) ?a43 ?l43 ?c43 ?k43) (J.def_at KX G (fun _ _ _ _ _ _ us hl => match us, hl with | [_, _], _ => rfl) ?a44 ?l44 ?c44 ?k44) (J.def_at KX G (fun _ _ _ _ _ _ us hl => match us, hl with | [_, _, _], _ => rfl) ?a45 ?l45 ?c45 ?k45) (J.def_at KX G (fun _ _ _ _ _ _ us hl => match us, hl with | [_, _], _ => rfl) ?a46 ?l46 ?c46 ?k46) (J.def_at KX G (fun _ _ _ _ _ _ us hl => match us, hl with | [_, _, _], _ => rfl) ?a47 ?l47 ?c47 ?k47) (J.def_at KX G (fun _ _ _ _ _ _ us hl => match us, hl with | [_, _, _, _], _ => rfl) ?a48 ?l48 ?c48 ?k48) (J.def_at KX G (fun _ _ _ _ _ _ us hl => match us, hl with | [_, _], _ => rfl) ?a49 ?l49 ?c49 ?k49) (J.def_at KX G (fun _ _ _ _ _ _ us hl => match us, hl with | [_, _, _], _ => rfl) ?a50 ?l50 ?c50 ?k50) (J.def_at KX G (fun _ _ _ _ _ _ us hl => match us, hl with | [_, _], _ => rfl) ?a52 ?l52 ?c52 ?k52) (J.def_at KX G (fun _ _ _ _ _ _ us hl => match us, hl with | [_, _], _ => rfl) ?a53 ?l53 ?c53 ?k53) (J.def_at KX G (fun _ _ _ _ _ _ us hl => match us, hl with | [_, _], _ => rfl) ?a54 ?l54 ?c54 ?k54) (J.def_at KX G (fun _ _ _ _ _ _ us hl => match us, hl with | [_, _], _ => rfl) ?a55 ?l55 ?c55 ?k55) (J.def_at KX G (fun _ _ _ _ _ _ us hl => match us, hl with | [_, _], _ => rfl) ?a56 ?l56 ?c56 ?k56) (J.def_at KX G (fun _ _ _ _ _ _ us hl => match us, hl with | [_, _], _ => rfl) ?a57 ?l57 ?c57 ?k57) (J.def_at KX G (fun _ _ _ _ _ _ us hl => match us, hl with | [_, _], _ => rfl) ?a58 ?l58 ?c58 ?k58) (J.def_at KX G (fun _ _ _ _ _ _ us hl => match us, hl with | [_, _], _ => rfl) ?a59 ?l59 ?c59 ?k59) (J.def_at KX G (fun _ _ _ _ _ _ us hl => match us, hl with | [_, _], _ => rfl) ?a60 ?l60 ?c60 ?k60) (J.def_at KX G (fun _ _ _ _ _ _ us hl => match us, hl with | [_, _, _], _ => rfl) ?a62 ?l62 ?c62 ?k62) (J.def_at KX G (fun _ _ _ _ _ _ us hl => match us, hl with | [_, _], _ => rfl) ?a68 ?l68 ?c68 ?k68) (J.def_at KX G (fun _ _ _ _ _ _ us hl => match us, hl with | [_, _], _ => rfl) ?a69 ?l69 ?c69 ?k69) (J.def_at KX G (fun _ _ _ _ _ _ us hl => match us, hl with | [_, _, _], _ => rfl) ?a70 ?l70 ?c70 ?k70) (J.cst_int KX G ?a0) (J.cst_int KX G ?a1) (J.cst_int KX G ?a2) (J.cst_int KX G ?a3) (J.cst_int KX G ?a4) (J.cst_int KX G ?a5) (J.cst_int KX G ?a6) (J.cst_int KX G ?a66) (PySem.W.mg_none_of KX G ?z0) (PySem.W.mg_none_of KX G ?z1) (PySem.W.mg_none_of KX G ?z2) (PySem.W.mg_none_of KX G ?z3) (PySem.W.mg_none_of KX G ?z4) (PySem.W.mg_none_of KX G ?z5) (J.cst_ref KX G ?a23) (PySem.W.mg_of KX G ?m23_0) (PySem.W.mg_of KX G ?m23_1) (PySem.W.mg_of KX G ?m23_2) (PySem.W.mg_of KX G ?m23_3) (PySem.W.mg_of KX G ?m23_4) (J.tab_at ?t23 ?lo23 ?nd23 ?pr23) (J.cst_ref KX G ?a61) (PySem.W.mg_of KX G ?m61_5) (PySem.W.mg_of KX G ?m61_6) (PySem.W.mg_of KX G ?m61_7) (PySem.W.mg_of KX G ?m61_8) (PySem.W.mg_of KX G ?m61_9) (PySem.W.mg_of KX G ?m61_10) (PySem.W.mg_of KX G ?m61_11) (PySem.W.mg_of KX G ?m61_12) (PySem.W.mg_of KX G ?m61_13) (J.tab_at ?t61 ?lo61 ?nd61 ?pr61) (J.cst_ref KX G ?a67) (J.tab_at ?t67 ?lo67 ?nd67 ?pr67)
    (case aC => k_is); (case b1 => k_is); (case i1 => k_is); (case m1 => k_is); (case n1 => k_is); (case o1 => k_is)
    (case b2 => k_is); (case m2 => k_is); (case n2 => k_is); (case o2 => k_is)
    (case pg => k_is); (case hd => k_is); (case po => k_is); (case sa => k_is); (case mk => k_is); (case kc => k_is); (case nC => k_is); (case nJ => k_is); (case nL => k_is)
    (case a8 => k_is); (case l8 => k_is); (case c8 => k_is); (case k8 => k_is); (case a9 => k_is); (case l9 => k_is)
    (case c9 => k_is); (case k9 => k_is); (case a10 => k_is); (case l10 => k_is); (case c10 => k_is); (case k10 => k_is)
    (case a11 => k_is); (case l11 => k_is); (case c11 => k_is); (case k11 => k_is); (case a12 => k_is); (case l12 => k_is)
    (case c12 => k_is); (case k12 => k_is); (case a13 => k_is); (case l13 => k_is); (case c13 => k_is); (case k13 => k_is)
    (case a14 => k_is); (case l14 => k_is); (case c14 => k_is); (case k14 => k_is); (case a15 => k_is); (case l15 => k_is)
    (case c15 => k_is); (case k15 => k_is); (case a16 => k_is); (case l16 => k_is); (case c16 => k_is); (case k16 => k_is)
    (case a18 => k_is); (case l18 => k_is); (case c18 => k_is); (case k18 => k_is); (case a19 => k_is); (case l19 => k_is)
    (case c19 => k_is); (case k19 => k_is); (case a20 => k_is); (case l20 => k_is); (case c20 => k_is); (case k20 => k_is)
    (case a21 => k_is); (case l21 => k_is); (case c21 => k_is); (case k21 => k_is); (case a22 => k_is); (case l22 => k_is)
    (case c22 => k_is); (case k22 => k_is); (case a24 => k_is); (case l24 => k_is); (case c24 => k_is); (case k24 => k_is)
    (case a25 => k_is); (case l25 => k_is); (case c25 => k_is); (case k25 => k_is); (case a27 => k_is); (case l27 => k_is)
    (case c27 => k_is); (case k27 => k_is); (case a28 => k_is); (case l28 => k_is); (case c28 => k_is); (case k28 => k_is)
    (case a29 => k_is); (case l29 => k_is); (case c29 => k_is); (case k29 => k_is); (case a30 => k_is); (case l30 => k_is)
    (case c30 => k_is); (case k30 => k_is); (case a31 => k_is); (case l31 => k_is); (case c31 => k_is); (case k31 => k_is)
    (case a32 => k_is); (case l32 => k_is); (case c32 => k_is); (case k32 => k_is); (case a34 => k_is); (case l34 => k_is)
    (case c34 => k_is); (case k34 => k_is); (case a35 => k_is); (case l35 => k_is); (case c35 => k_is); (case k35 => k_is)
    (case a36 => k_is); (case l36 => k_is); (case c36 => k_is); (case k36 => k_is); (case a37 => k_is); (case l37 => k_is)
    (case c37 => k_is); (case k37 => k_is); (case a38 => k_is); (case l38 => k_is); (case c38 => k_is); (case k38 => k_is)
    (case a40 => k_is); (case l40 => k_is); (case c40 => k_is); (case k40 => k_is); (case a41 => k_is); (case l41 => k_is)
    (case c41 => k_is); (case k41 => k_is); (case a43 => k_is); (case l43 => k_is); (case c43 => k_is); (case k43 => k_is)
    (case a44 => k_is); (case l44 => k_is); (case c44 => k_is); (case k44 => k_is); (case a45 => k_is); (case l45 => k_is)
    (case c45 => k_is); (case k45 => k_is); (case a46 => k_is); (case l46 => k_is); (case c46 => k_is); (case k46 => k_is)
    (case a47 => k_is); (case l47 => k_is); (case c47 => k_is); (case k47 => k_is); (case a48 => k_is); (case l48 => k_is)
    (case c48 => k_is); (case k48 => k_is); (case a49 => k_is); (case l49 => k_is); (case c49 => k_is); (case k49 => k_is)
    (case a50 => k_is); (case l50 => k_is); (case c50 => k_is); (case k50 => k_is); (case a52 => k_is); (case l52 => k_is)
    (case c52 => k_is); (case k52 => k_is); (case a53 => k_is); (case l53 => k_is); (case c53 => k_is); (case k53 => k_is)
    (case a54 => k_is); (case l54 => k_is); (case c54 => k_is); (case k54 => k_is); (case a55 => k_is); (case l55 => k_is)
    (case c55 => k_is); (case k55 => k_is); (case a56 => k_is); (case l56 => k_is); (case c56 => k_is); (case k56 => k_is)
    (case a57 => k_is); (case l57 => k_is); (case c57 => k_is); (case k57 => k_is); (case a58 => k_is); (case l58 => k_is)
    (case c58 => k_is); (case k58 => k_is); (case a59 => k_is); (case l59 => k_is); (case c59 => k_is); (case k59 => k_is)
    (case a60 => k_is); (case l60 => k_is); (case c60 => k_is); (case k60 => k_is); (case a62 => k_is); (case l62 => k_is)
    (case c62 => k_is); (case k62 => k_is); (case a68 => k_is); (case l68 => k_is); (case c68 => k_is); (case k68 => k_is)
    (case a69 => k_is); (case l69 => k_is); (case c69 => k_is); (case k69 => k_is); (case a70 => k_is); (case l70 => k_is)
    (case c70 => k_is); (case k70 => k_is); (case a0 => k_is); (case a1 => k_is); (case a2 => k_is); (case a3 => k_is)
    (case a4 => k_is); (case a5 => k_is); (case a6 => k_is); (case a66 => k_is); (case z0 => k_is); (case z1 => k_is)
    (case z2 => k_is); (case z3 => k_is); (case z4 => k_is); (case z5 => k_is); (case a23 => k_is); (case m23_0 => k_is)
    (case m23_1 => k_is); (case m23_2 => k_is); (case m23_3 => k_is); (case m23_4 => k_is); (case a61 => k_is); (case m61_5 => k_is)
    (case m61_6 => k_is); (case m61_7 => k_is); (case m61_8 => k_is); (case m61_9 => k_is); (case m61_10 => k_is); (case m61_11 => k_is)
    (case m61_12 => k_is); (case m61_13 => k_is); (case a67 => k_is)
    (case t23 => k_is); (case lo23 => decide); (case nd23 => decide); (case pr23 => exact .cons ⟨⟨_, rfl⟩, by decide +kernel, rfl⟩ (.cons ⟨⟨_, rfl⟩, by decide +kernel, rfl⟩ (.cons ⟨⟨_, rfl⟩, by decide +kernel, rfl⟩ (.cons ⟨⟨_, rfl⟩, by decide +kernel, rfl⟩ (.cons ⟨⟨_, rfl⟩, by decide +kernel, rfl⟩ (.nil))))))
    (case t61 => k_is); (case lo61 => decide); (case nd61 => decide); (case pr61 => exact .cons ⟨⟨_, rfl⟩, by decide +kernel, rfl⟩ (.cons ⟨⟨_, rfl⟩, by decide +kernel, rfl⟩ (.cons ⟨⟨_, rfl⟩, by decide +kernel, rfl⟩ (.cons ⟨⟨_, rfl⟩, by decide +kernel, rfl⟩ (.cons ⟨⟨_, rfl⟩, by decide +kernel, rfl⟩ (.cons ⟨⟨_, rfl⟩, by decide +kernel, rfl⟩ (.cons ⟨⟨_, rfl⟩, by decide +kernel, rfl⟩ (.cons ⟨⟨_, rfl⟩, by decide +kernel, rfl⟩ (.cons ⟨⟨_, rfl⟩, by decide +kernel, rfl⟩ (.nil))))))))))
    (case t67 => k_is); (case lo67 => decide); (case nd67 => decide); (case pr67 => exact .cons ⟨⟨_, rfl⟩, by decide +kernel, ⟨_, rfl⟩⟩ (.cons ⟨⟨_, rfl⟩, by decide +kernel, ⟨_, rfl⟩⟩ (.cons ⟨⟨_, rfl⟩, by decide +kernel, ⟨_, rfl⟩⟩ (.cons ⟨⟨_, rfl⟩, by decide +kernel, ⟨_, rfl⟩⟩ (.cons ⟨⟨_, rfl⟩, by decide +kernel, ⟨_, rfl⟩⟩ (.cons ⟨⟨_, rfl⟩, by decide +kernel, ⟨_, rfl⟩⟩ (.cons ⟨⟨_, rfl⟩, by decide +kernel, ⟨_, rfl⟩⟩ (.cons ⟨⟨_, rfl⟩, by decide +kernel, ⟨_, rfl⟩⟩ (.cons ⟨⟨_, rfl⟩, by decide +kernel, ⟨_, rfl⟩⟩ (.cons ⟨⟨_, rfl⟩, by decide +kernel, ⟨_, rfl⟩⟩ (.cons ⟨⟨_, rfl⟩, by decide +kernel, ⟨_, rfl⟩⟩ (.cons ⟨⟨_, rfl⟩, by decide +kernel, ⟨_, rfl⟩⟩ (.cons ⟨⟨_, rfl⟩, by decide +kernel, ⟨_, rfl⟩⟩ (.nil))))))))))))))
  case S =>
    intro K H xs a hO hwi hask hx
    exact J.the_request K H xs a.1 hO hwi hask hx
