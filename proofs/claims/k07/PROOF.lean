import PyProof.Rows.All
import Wide.All
import OpenK.AllK
import Wide.FinOn
import HandS.Base
import HandS.Call
import HandS.List
import HandS.Comp
import HandS.Ends
import HandS.Dict
import HandS.Iter
import HandS.EndBits
import HandS.Words
import HandS.WordsList
import HandS.WordsDict
import HandS.Text
import HandS.Wide
import HandS.WideBits
import HandS.Conv
import HandS.TupLe
import HandS.IsInst
import HandS.ExcIs
import HandS.ExcValue
import HandS.TupSets
import HandS.Zip
import HandS.Walk
import HandS.TupAny
import PyProof.ReprRoads
import PyProof.ReprBulk
import PySem.Challenge.RW_anywide_k07_longest_rows_of_sums
set_option Elab.async false
set_option linter.all false
set_option maxRecDepth 100000
namespace AW
open PySem PySem.Spec PyProof.Rows L2

/-! ### a def's call at one around -/
theorem fn_at {P : Program} {w : World} {K : PySem.W.Frag} {mg : Str → Option Value} {base : Heap} {k : Nat} {f : Addr} {x qual : Str} {st : Stmt} {fd : FuncData} {N ps : List Str}
    (F : Fun K x qual st f fd) (S : FnScope N ps (defScope st)) {A : Around} {outer : List Env} {s : Shared} {H : Hp} {args : Args} {us : List Value} {vs : List V} {Q : VK} {E : XK}
    (hr : Room (k + 1) A) (e0 : Env0 P w K mg base A outer s H) (hb : BindsTo s fd args (ps.zip us)) (r : Vals vs us) (hl : vs.length = ps.length)
    (hbody : ∀ cdv : Value, ∃ t, PSs (cxOf CX0 P w K mg base N qual (defScope st) f cdv A outer s H E).nox (defBody st) t ∧ t { nx := fun _ H' => Q .non H', rt := Q } (start N vs) H) :
    codeAny (model P w) A (.call (.ref f) args) (CR CX0 outer P w H s Q E) s := by
  obtain ⟨oc, od, kV, doc, pm, an, cdv, ct, osl, rfl, lk, hcd⟩ := F.ex
  have keep0 : ∀ b o, base.get? b = some o → s.heap.get? b = some o := fun b o e => (e0.bs b o e).1
  have KX := e0.mod.kin.keeps keep0
  refine codeAny_call_function (Room.depth hr) (KX _ _ lk) rfl S.co S.gen rfl (PySem.W.codeRec_of KX hcd) (hb _ _ _ _ ?_)
  have kinds : ∀ y ∈ ps.zip us, (defScope st).names.lookup y.1 = some .local ∨ ((defScope st).names.lookup y.1 = some .cell ∧ ((cellsFrom (s.heap.objs.size + 1) (defScope st).names []).lookup y.1).isSome = true) := by
    intro y hy
    obtain ⟨n, v⟩ := y
    exact (S.par n (List.of_mem_zip hy).1).elim Or.inl fun q => Or.inr ⟨q, PySem.W.cellsFrom_some _ _ _ (.inl q)⟩
  refine wpAny_newFunctionEnv_cells S.kind kinds ?_
  rintro env rfl s1 ic
  obtain ⟨t, ht, hq⟩ := hbody cdv
  refine ⟨(e0.mod.nolimit.keeps keep0).keeps ic.toInCall.keep, codeAny_func (wpAny_mono (ht.nox.run [] s1 (start N vs) H _ (inv_start S hr.hd e0 hl r ic) hq) ?_ (fun _ _ z => z))⟩
  intro fl s' hs
  cases fl with
  | ret u =>
    obtain ⟨v, σ', H', J, rv, q⟩ := hs
    exact ⟨v, H', J.os, J.bare, J.base, J.hok, rv, q⟩
  | next =>
    obtain ⟨σ', H', J, q⟩ := hs
    exact ⟨V.non, H', J.os, J.bare, J.base, J.hok, rfl, q⟩
  | brk => exact hs.elim fun _ z => z.elim fun _ z => z.2.elim
  | cont => exact hs.elim fun _ z => z.elim fun _ z => z.2.elim

/-! ### the law's own call -/
theorem env_at {P : Program} {w : World} {K : PySem.W.Frag} {mg mb : Str → Option Value} {a : Addr} {s1 : Shared} {vs : List Value} {H : Hp}
    (KX : K.In s1.heap) (hns : s1.heap.Ns mainGlobals mg) (hb : s1.heap.Ns builtinsNs mb) (hbb : ∀ x : Str, x ≠ "__name__" → mb x = bootBuiltins x) (hlim : s1.heap.NoLimit) (hg : s1.gens = #[])
    (ha : s1.heap.get? a = some { cls := .type "list", data := .seq vs.toArray }) (one : ∀ b u, H b = some u → b = a) (out : ∀ o, K.lookup a = some o → H a = none) (ok : HOk P w H s1.heap) :
    Env0 P w K mg (hidT s1.heap H) callerA [] s1 H := by
  have dicts : ∀ {b : Addr} {m : Str → Option Value}, s1.heap.Ns b m → (hidT s1.heap H).Ns b m := by
    rintro b m ⟨o, es, ep, e, d, r⟩
    refine ⟨o, es, ep, hidT_get e ?_, d, r⟩
    match q : H b with
    | none => rfl
    | some u =>
      obtain rfl := one b u q
      have e2 := Option.some.inj (e.symm.trans ha)
      rw [e2] at d
      cases d
  have kin : K.In (hidT s1.heap H) := by
    intro b o e
    refine hidT_get (KX b o e) ?_
    match q : H b with
    | none => rfl
    | some u =>
      obtain rfl := one b u q
      exact q.symm.trans (out o e)
  obtain ⟨mc, l1, l2⟩ := hlim
  exact ⟨rfl, ⟨kin, dicts hns, ⟨mb, dicts hb, hbb⟩, ⟨mc, dicts l1, l2⟩⟩, fun b o e => of_hidT e, Nat.le_of_eq (hidT_size _ _), trivial, (fun b z => nomatch z), ok, .of_eq hg⟩

theorem law_end {P : Program} {w : World} {K : PySem.W.Frag} {mg mb : Str → Option Value} {fa a : Addr} {s1 : Shared} {vs : List Value} {ns : List Int}
    (KX : K.In s1.heap) (hns : s1.heap.Ns mainGlobals mg) (hb : s1.heap.Ns builtinsNs mb) (hbb : ∀ x : Str, x ≠ "__name__" → mb x = bootBuiltins x) (hlim : s1.heap.NoLimit) (hg : s1.gens = #[])
    (ha : s1.heap.get? a = some { cls := .type "list", data := .seq vs.toArray }) (hi : IntsAre vs ns) (hl : ns.length ≤ sizeLine)
    (run : ∀ (base : Heap) (H : Hp), Env0 P w K mg base callerA [] s1 H → SqL K H a (ns.map V.int) →
      codeAny (model P w) callerA (.call (.ref fa) ⟨[.ref a], []⟩) (CR CX0 [] P w H s1 (fun v _ => v = .bl true) E0) s1) :
    codeAny (model P w) callerA (.call (.ref fa) ⟨[.ref a], []⟩) (fun r s' => r = .ok (.ret (.bool true)) ∧ OldK s1.heap s'.heap ∧ s'.os = s1.os ∧ AllBare s'.gens) s1 := by
  have rv := vals_ints hi
  have fin : ∀ H : Hp, HOk P w H s1.heap → (∀ b u, H b = some u → ∃ o xs, u = .frz o (.lst xs)) → ∀ r s', CR CX0 [] P w H s1 (fun v _ => v = .bl true) E0 r s' →
      r = .ok (.ret (.bool true)) ∧ OldK s1.heap s'.heap ∧ s'.os = s1.os ∧ AllBare s'.gens := by
    intro H ok hf r s' h
    match r, h with
    | .ok (.ret u), ⟨v, H', os, bare, un, ok2, rel, q⟩ =>
      obtain rfl : v = .bl true := q
      obtain rfl : u = Value.bool true := rel
      refine ⟨rfl, OldK.of_keep ?_, os, bare⟩
      intro b o e
      match qb : H b with
      | none => exact un.keep b o e qb (fun z => nomatch z) (fun z => nomatch z)
      | some ho =>
        obtain ⟨o2, xs, rfl⟩ := hf b ho qb
        have k1 := (ok b _ qb).1
        have k2 := (ok2 b _ (un.frzs b o2 _ qb)).1
        rw [e] at k1
        cases k1
        exact k2
  match hk : K.lookup a with
  | some o =>
    have e := (KX a o hk).symm.trans ha
    obtain rfl := Option.some.inj e
    have ok : HOk P w (fun _ => none) s1.heap := fun b u z => nomatch z
    refine codeAny_mono (run _ (fun _ => none) (env_at KX hns hb hbb hlim hg ha (fun b u z => nomatch z) (fun _ _ => rfl) ok) ?_) (fin _ ok fun b u z => nomatch z)
    exact .inr ⟨_, vs.toArray, _, hk, rfl, rfl, rfl, by rw [List.size_toArray, hi.length]; exact hl, by simpa using rv⟩
  | none =>
    let o : Obj := { cls := .type "list", data := .seq vs.toArray }
    have at_ : ∀ b u, (if b = a then some (HO.frz o (.lst (ns.map V.int))) else none) = some u → b = a ∧ u = HO.frz o (.lst (ns.map V.int)) := by
      intro b u z
      by_cases hb : b = a
      · rw [if_pos hb] at z
        exact ⟨hb, (Option.some.inj z).symm⟩
      · rw [if_neg hb] at z
        cases z
    have ok : HOk P w (fun b => if b = a then some (HO.frz o (.lst (ns.map V.int))) else none) s1.heap := by
      intro b u z
      obtain ⟨rfl, rfl⟩ := at_ b u z
      exact ⟨ha, by rw [List.length_map]; exact hl, vs, _, rv, ha⟩
    refine codeAny_mono (run _ _ (env_at KX hns hb hbb hlim hg ha (fun b u z => (at_ b u z).1) (fun o' e => absurd (hk.symm.trans e) (fun z => nomatch z)) ok) ?_) (fin _ ok fun b u z => ⟨_, _, (at_ b u z).2⟩)
    exact .inl (.inr ⟨o, if_pos rfl⟩)

theorem walkG {l : PySem.W.OpenLaw} {n : Nat} {q : Program} {loose : List Str} {XP : (Str → Option Value) → Heap → Prop} {YP : World → Heap → Prop} {d : DefRec} {K : Params → PySem.W.Frag}
    (hn : l.most = some n) (hn2 : n ≤ sizeLine) (hdf : d.params.defaults = []) (hY : ∀ (w : World) (h : Heap), YP w h → (K w.params).In h)
    (F : ∀ (w : World) (mg : Str → Option Value) (fa : Addr) (h : Heap), (K w.params).In h → h.Ns mainGlobals mg → mg d.name = some (.ref fa) →
      ∀ (s : Shared) (a : Addr) (ns : List Int) (base : Heap) (H : Hp), ns.length ≤ n → (∀ z ∈ ns, Builtin.Int.intBits z ≤ 1048576) → Env0 l.prog w (K w.params) mg base callerA [] s H → SqL (K w.params) H a (ns.map V.int) →
        codeAny (model l.prog w) callerA (.call (.ref fa) ⟨[.ref a], []⟩) (CR CX0 [] l.prog w H s (fun v _ => v = .bl true) E0) s) :
    PySem.W.WalkO q loose XP YP l.row.toRowW d [] (fun f vs => PySem.call f vs) := by
  apply Att.attach_callB hn hdf
  intro w s0 s1 mg mb fa o pm cd doc a vs ns G Y ho hd hcd hmg hobj hints hlen hbits hg
  have KX := hY w _ Y
  exact law_end KX G.T.g G.T.b G.T.builtins G.T.nolimit hg hobj hints (Nat.le_trans hlen hn2) fun base H e0 hS => F w mg fa _ KX G.T.g hmg s1 a ns base H hlen hbits e0 hS

/-! ### repr of data -/
section
variable {X : Cx}
/-- what a value reads, whatever the state -/
def Rz (X : Cx) (H : Hp) (v : V) (d : PyData) : Prop := ∀ pins σ s u, Inv X pins σ H s → RelV v u → ∃ as, Reads s.heap u d as ∧ sysModules ∉ as
def rRepr (X : Cx) : List V → Hp → VK → Prop := fun xs H Q => ∃ (x : V) (d : PyData), xs = [x] ∧ (Rz X H x d ∨ (Dp X.K H x d ∧ d.hasDict = false)) ∧ d.showable = true ∧ d.depth ≤ 40 ∧ d.shown.length ≤ sizeLine ∧ Q (.str d.shown) H
theorem call_repr (hg : X.A.guards = some []) (hu : X.A.units + 64 < cLine) : CallR X (.builtin "repr") (rRepr X) := by
  intro pins s σ H xs us Q I r h
  obtain ⟨x, d, rfl, hd, hs, hp, hz, q⟩ := h
  match us, r with
  | [u], .cons rx .nil =>
    have rd : ∃ as, Reads s.heap u d as ∧ (d.hasDict = true → sysModules ∉ as) := by
      rcases hd with hd | ⟨hd, hn⟩
      · obtain ⟨as, h1, h2⟩ := hd pins σ s u I rx
        exact ⟨as, h1, fun _ => h2⟩
      · obtain ⟨as, h1⟩ := Dp.reads I d x u hd rx
        exact ⟨as, h1, fun z => by rw [hn] at z; cases z⟩
    obtain ⟨as, h1, h2⟩ := rd
    cases h1 with
    | none => exact PySem.P.repr_of_none ⟨.str _, H, I.tok _, ⟨_, rfl⟩, q⟩
    | bool b => exact PySem.P.repr_of_bool ⟨.str _, H, I.tok _, ⟨_, rfl⟩, by have q' := q; simp only [PyData.shown] at q'; cases b <;> exact q'⟩
    | int i t => exact PySem.P.repr_of_int (by simpa [PyData.showable] using hs) ⟨.str _, H, I.tok _, ⟨_, rfl⟩, by simpa only [PyData.shown] using q⟩
    | str x t => exact PySem.P.repr_of_str ⟨.str _, H, I.tok _, ⟨_, rfl⟩, by simpa only [PyData.shown] using q⟩ (by simpa only [PyData.shown] using hz)
    | list a b c e => exact repr_of_reads' (Reads.list a b c e) hs h2 hg (by omega) (fun _ _ e => e) (fun h' u tk k => ⟨.str _, H, I.kept k, ⟨_, rfl⟩, q⟩) hz
    | tuple a b c e => exact repr_of_reads' (Reads.tuple a b c e) hs h2 hg (by omega) (fun _ _ e => e) (fun h' u tk k => ⟨.str _, H, I.kept k, ⟨_, rfl⟩, q⟩) hz
    | dict a b c e f => exact repr_of_reads' (Reads.dict a b c e f) hs h2 hg (by omega) (fun _ _ e => e) (fun h' u tk k => ⟨.str _, H, I.kept k, ⟨_, rfl⟩, q⟩) hz

theorem Rz.int (H : Hp) (i : Int) : Rz X H (.int i) (.int i) := by
  rintro pins σ s u I ⟨t, rfl⟩
  exact ⟨_, Reads.int i t, (fun z => nomatch z)⟩
theorem Rz.str (H : Hp) (x : Str) : Rz X H (.str x) (.str x) := by
  rintro pins σ s u I ⟨t, rfl⟩
  exact ⟨_, Reads.str x t, (fun z => nomatch z)⟩
theorem rz_all {H : Hp} : ∀ {vs : List V} {ds : List PyData}, Paired (Rz X H) vs ds → ∀ {pins σ s us}, Inv X pins σ H s → Vals vs us → ∃ as, ReadsAll s.heap us ds as ∧ sysModules ∉ as
  | _, _, .nil, _, _, _, _, _, .nil => ⟨_, ReadsAll.nil, (fun z => nomatch z)⟩
  | _, _, .cons h t, _, _, _, _, I, .cons r rs => by
    obtain ⟨as, a1, a2⟩ := h _ _ _ _ I r
    obtain ⟨bs, b1, b2⟩ := rz_all t I rs
    exact ⟨_, ReadsAll.cons a1 b1, fun z => (List.mem_append.mp z).elim a2 b2⟩
theorem Rz.tup {H : Hp} {a : Addr} {xs : List V} {ds : List PyData} (h : SqT X.K H a xs) (hs : Paired (Rz X H) xs ds) : Rz X H (.ref a) (.tuple ds) := by
  intro pins σ s u I r
  obtain rfl : u = Value.ref a := r
  obtain ⟨its, rv, ⟨o, ho, hc, n, hd⟩, _⟩ := I.tuple h
  obtain ⟨as, h1, h2⟩ := rz_all hs I rv
  exact ⟨_, Reads.tuple ho hc hd h1, h2⟩
end
end AW
namespace AW
open PySem PySem.Spec PyProof.Rows L2
section
variable {X : Cx}
def CPowW (i j : Int) : Prop := 0 ≤ j ∧ (Builtin.Int.intBits i : Int) * j ≤ 2 ^ 27
theorem op_powW : OpR X (binaryOp .Pow) (rI CPowW fun i j => .int (i ^ j.toNat)) := opI fun _ _ _ _ _ _ _ hc q => pow_int hc.1 hc.2 q
end
theorem bits_lt {z : Int} {n : Nat} (h : Builtin.Int.intBits z ≤ n) : z.natAbs < 2 ^ n := by
  unfold Builtin.Int.intBits at h
  by_cases e : z = 0
  · subst e
    exact Nat.pos_of_ne_zero (by simp)
  · rw [if_neg (by simpa using e)] at h
    have : z.natAbs ≠ 0 := by omega
    exact (Nat.log2_lt this).mp (by omega)
theorem seed_ok {z c : Int} (h0 : 0 ≤ z) (h1 : z ≤ 2147483629) (h2 : Builtin.Int.intBits c ≤ 1048576) : CPowW (z * 50021 + c) 3 := by
  refine ⟨by decide, ?_⟩
  have hc := bits_lt h2
  have h3 : (z * 50021 + c).natAbs < 2 ^ 1048577 := by
    have a : (z * 50021 + c).natAbs ≤ (z * 50021).natAbs + c.natAbs := Int.natAbs_add_le _ _
    have b : (z * 50021).natAbs ≤ 2 ^ 48 := by omega
    have d : (2 : Nat) ^ 48 ≤ 2 ^ 1048576 := Nat.pow_le_pow_right (by decide) (by decide)
    have e : (2 : Nat) ^ 1048577 = 2 ^ 1048576 + 2 ^ 1048576 := by rw [Nat.pow_succ]; omega
    omega
  have h4 := PyProof.Rows.intBits_le h3
  have e : (2 : Int) ^ 27 = 134217728 := by decide
  rw [e]
  omega
/-! ### what follows an if, shown once -/
def tMid (t u : TS) : TS := fun D σ H => ∃ M : L2.St → Hp → Prop, t { D with nx := M } σ H ∧ ∀ σ2 H2, M σ2 H2 → u D σ2 H2
theorem pss_mid {X : Cx} {st : Stmt} {r : List Stmt} {t u : TS} (a : PS X st t) (b : PSs X r u) : PSs X (st :: r) (tMid t u) := by
  constructor
  rintro pins s σ H D I ⟨M, h1, h2⟩
  apply wpAny_execs_cons
  refine thn (a.run pins s σ H _ I h1) ?_
  intro fl s2 z
  match fl, z with
  | .next, ⟨σ2, H2, I2, m⟩ => exact b.run pins s2 σ2 H2 D I2 (h2 σ2 H2 m)
  | .ret _, z => exact z
  | .brk, z => exact z
  | .cont, z => exact z
/-! ### the well -/
def WL (H : Hp) (a c : Addr) : Prop := a ≠ c ∧ ∃ (cs : List Int) (r s : Int), H a = some (.lst [.ref c, .int r, .int s]) ∧ H c = some (.lst (cs.map V.int))
/-- all but the well stands as it stood -/
def Kp (a c : Addr) (H H' : Hp) : Prop := ∀ b o, b ≠ a → b ≠ c → H b = some o → H' b = some o
theorem Kp.refl (a c : Addr) (H : Hp) : Kp a c H H := fun _ _ _ _ h => h
theorem Kp.trans {a c : Addr} {H H1 H2 : Hp} (h : Kp a c H H1) (k : Kp a c H1 H2) : Kp a c H H2 := fun b o n1 n2 e => k b o n1 n2 (h b o n1 n2 e)
theorem Kp.tup {a c : Addr} {H H' : Hp} (w : WL H a c) (k : Kp a c H H') {b : Addr} {xs : List V} (h : H b = some (.tup xs)) : H' b = some (.tup xs) := by
  obtain ⟨_, cs, r, s, e1, e2⟩ := w
  exact k b _ (ne_of h e1 (fun z => nomatch z)) (ne_of h e2 (fun z => nomatch z)) h
theorem Kp.same {a c : Addr} {H H1 H2 : Hp} (ha : H a = none) (hc : H c = none) (s : Same H H1) (k : Kp a c H1 H2) : Same H H2 := fun b o e => k b o (ne_of_none e ha) (ne_of_none e hc) (s b o e)
theorem same_new {H : Hp} {p : Addr} {o : HO} (h : H p = none) : Same H (upd H p o) := fun b x e => by
  rw [upd_ne (ne_of_none e h)]
  exact e
theorem WL.same {H H' : Hp} {a c : Addr} (w : WL H a c) (k : Same H H') : WL H' a c := by
  obtain ⟨n, cs, r, s, e1, e2⟩ := w
  exact ⟨n, cs, r, s, k _ _ e1, k _ _ e2⟩
theorem WL.ne_new {H : Hp} {a c p : Addr} (w : WL H a c) (h : H p = none) : p ≠ a ∧ p ≠ c := by
  obtain ⟨n, cs, r, s, e1, e2⟩ := w
  exact ⟨(ne_of_none e1 h).symm, (ne_of_none e2 h).symm⟩
theorem WL.upd {H : Hp} {a c p : Addr} {o : HO} (w : WL H a c) (h1 : p ≠ a) (h2 : p ≠ c) : WL (upd H p o) a c := by
  obtain ⟨n, cs, r, s, e1, e2⟩ := w
  exact ⟨n, cs, r, s, by rw [upd_ne h1.symm]; exact e1, by rw [upd_ne h2.symm]; exact e2⟩
theorem Same.kp {a c : Addr} {H H' : Hp} (s : Same H H') : Kp a c H H' := fun b o _ _ e => s b o e
theorem dp_ints {K : PySem.W.Frag} {H : Hp} : ∀ cs : List Int, DpAll K H (cs.map V.int) (cs.map PyData.int)
  | [] => .nil
  | c :: cs => .cons (.int c) (dp_ints cs)
theorem lay_ints : ∀ cs : List Int, PyData.canLayAll0 (cs.map PyData.int) = true ∧ PyData.depthAll (cs.map PyData.int) = 0
  | [] => ⟨by simp only [List.map_nil, PyData.canLayAll0], by simp only [List.map_nil, PyData.depthAll]⟩
  | c :: cs => by
    obtain ⟨h1, h2⟩ := lay_ints cs
    exact ⟨by simp only [List.map_cons, PyData.canLayAll0, PyData.canLay0, h1, Bool.and_self], by simp only [List.map_cons, PyData.depthAll, PyData.depth, h2, Nat.max_self]⟩
theorem shaped_ints (cs : List Int) : SeqAt.shaped (.list (cs.map PyData.int)) = true := by
  obtain ⟨h1, h2⟩ := lay_ints cs
  simp only [SeqAt.shaped, PyData.canLay0, PyData.depth, h1, h2, Bool.true_and]
  decide
theorem dp_strs {K : PySem.W.Frag} {H : Hp} : ∀ cs : List Str, DpAll K H (cs.map V.str) (cs.map PyData.str)
  | [] => .nil
  | c :: cs => .cons (.str c) (dp_strs cs)
theorem lay_strs : ∀ cs : List Str, (∀ x ∈ cs, PyData.strOk x = true) → PyData.canLayAll0 (cs.map PyData.str) = true ∧ PyData.depthAll (cs.map PyData.str) = 0
  | [], _ => ⟨by simp only [List.map_nil, PyData.canLayAll0], by simp only [List.map_nil, PyData.depthAll]⟩
  | c :: cs, h => by
    obtain ⟨h1, h2⟩ := lay_strs cs fun x hx => h x (List.mem_cons_of_mem _ hx)
    exact ⟨by simp only [List.map_cons, PyData.canLayAll0, PyData.canLay0, h1, h c List.mem_cons_self, Bool.and_self], by simp only [List.map_cons, PyData.depthAll, PyData.depth, h2, Nat.max_self]⟩
theorem shaped_strs (cs : List Str) (h : ∀ x ∈ cs, PyData.strOk x = true) : SeqAt.shaped (.list (cs.map PyData.str)) = true := by
  obtain ⟨h1, h2⟩ := lay_strs cs h
  simp only [SeqAt.shaped, PyData.canLay0, PyData.depth, h1, h2, Bool.true_and]
  decide
theorem seq0 (n : Nat) : seqIndex? 0 (n + 1) = some 0 := by
  unfold seqIndex?
  simp
/-! ### the words of deeds, deeds, rows -/
def fwL : List (Str × Int) := [("none", 0), ("one", 0), ("all", 0), ("not", 1), ("neg", 1), ("twice", 1), ("and", 2), ("or", 2), ("xor", 2), ("add", 2), ("sub", 2)]
theorem fw_ok : ∀ x ∈ fwL.map (·.1), PyData.strOk x = true := by decide +kernel
def fwK : List (Key × V) := fwL.map fun p => (Sum.inr p.1, .int p.2)
/-- a deed: its word and its numbers -/
abbrev Deed := Str × List Int
def dV (d : Deed) : List V := .str d.1 :: d.2.map V.int
theorem dv0 (d : Deed) : atI (dV d) 0 = some (.str d.1) := atI_nat (j := 0) rfl
theorem dvN {d : Deed} {k : Nat} {i : Int} (h : d.2[k]? = some i) : atI (dV d) ((k + 1 : Nat) : Int) = some (.int i) := atI_nat (by show (d.2.map V.int)[k]? = _; rw [List.getElem?_map, h]; rfl)
structure DeedOk (m : Int) (d : Deed) : Prop where
  word : (d.1, (d.2.length : Int)) ∈ fwL
  ahead : ∀ i ∈ d.2, 0 ≤ i ∧ i < m
theorem fw_at {z : Int} (h0 : 0 ≤ z) (h1 : z < 11) : ∃ x n, (x, n) ∈ fwL ∧ 0 ≤ n ∧ n ≤ 2 ∧ atI (fwK.map fun kv => kV kv.1) z = some (.str x) ∧ valV fwK (Sum.inr x) = some (.int n) := by
  obtain ⟨k, rfl⟩ := Int.eq_ofNat_of_zero_le h0
  have hk : k = 0 ∨ k = 1 ∨ k = 2 ∨ k = 3 ∨ k = 4 ∨ k = 5 ∨ k = 6 ∨ k = 7 ∨ k = 8 ∨ k = 9 ∨ k = 10 := by omega
  rcases hk with rfl | rfl | rfl | rfl | rfl | rfl | rfl | rfl | rfl | rfl | rfl
  · exact ⟨"none", 0, by decide +kernel, by decide, by decide, by decide +kernel, by decide +kernel⟩
  · exact ⟨"one", 0, by decide +kernel, by decide, by decide, by decide +kernel, by decide +kernel⟩
  · exact ⟨"all", 0, by decide +kernel, by decide, by decide, by decide +kernel, by decide +kernel⟩
  · exact ⟨"not", 1, by decide +kernel, by decide, by decide, by decide +kernel, by decide +kernel⟩
  · exact ⟨"neg", 1, by decide +kernel, by decide, by decide, by decide +kernel, by decide +kernel⟩
  · exact ⟨"twice", 1, by decide +kernel, by decide, by decide, by decide +kernel, by decide +kernel⟩
  · exact ⟨"and", 2, by decide +kernel, by decide, by decide, by decide +kernel, by decide +kernel⟩
  · exact ⟨"or", 2, by decide +kernel, by decide, by decide, by decide +kernel, by decide +kernel⟩
  · exact ⟨"xor", 2, by decide +kernel, by decide, by decide, by decide +kernel, by decide +kernel⟩
  · exact ⟨"add", 2, by decide +kernel, by decide, by decide, by decide +kernel, by decide +kernel⟩
  · exact ⟨"sub", 2, by decide +kernel, by decide, by decide, by decide +kernel, by decide +kernel⟩
theorem awSnoc {α β : Type} {F : α → β → Prop} {x : α} {y : β} (h : F x y) : ∀ {l : List α} {l2 : List β}, Paired F l l2 → Paired F (l ++ [x]) (l2 ++ [y])
  | _, _, .nil => .cons h .nil
  | _, _, .cons r t => .cons r (awSnoc h t)
theorem awMap {α β : Type} {F G : α → β → Prop} (f : ∀ a b, F a b → G a b) : ∀ {l : List α} {l2 : List β}, Paired F l l2 → Paired G l l2
  | _, _, .nil => .nil
  | _, _, .cons r t => .cons (f _ _ r) (awMap f t)
theorem awLen {α β : Type} {F : α → β → Prop} : ∀ {l : List α} {l2 : List β}, Paired F l l2 → l.length = l2.length
  | _, _, .nil => rfl
  | _, _, .cons _ t => congrArg (· + 1) (awLen t)
theorem awGet {α β : Type} {F : α → β → Prop} : ∀ {l : List α} {l2 : List β} {i : Nat} {x : α}, Paired F l l2 → l[i]? = some x → ∃ y, l2[i]? = some y ∧ F x y
  | _, _, _, _, .nil, e => by simp at e
  | _, _, 0, _, .cons r _, e => by
    simp only [List.getElem?_cons_zero, Option.some.injEq] at e
    subst e
    exact ⟨_, rfl, r⟩
  | _, _, i + 1, x, .cons _ t, e => by
    simp only [List.getElem?_cons_succ] at e ⊢
    exact awGet t e
theorem awGet2 {α β : Type} {F : α → β → Prop} {l : List α} {l2 : List β} {i : Nat} {y : β} (h : Paired F l l2) (e : l2[i]? = some y) : ∃ x, l[i]? = some x ∧ F x y := by
  have hi : i < l.length := by
    rw [awLen h]
    exact (List.getElem?_eq_some_iff.mp e).1
  obtain ⟨y2, e2, f⟩ := awGet h (List.getElem?_eq_getElem hi)
  rw [e] at e2
  obtain rfl := Option.some.inj e2
  exact ⟨_, List.getElem?_eq_getElem hi, f⟩
/-- deeds that stand in the heap as tuples -/
abbrev DsAt (H : Hp) : List Addr → List Deed → Prop := Paired fun r d => H r = some (.tup (dV d))
def RowAt (H : Hp) (R : Addr) (m : Int) (ds : List Deed) (o : Int) : Prop := ∃ D rs, H R = some (.tup [.int m, .ref D, .int o]) ∧ H D = some (.tup (rs.map V.ref)) ∧ DsAt H rs ds
structure DsOk (m : Int) (ds : List Deed) : Prop where
  each : ∀ (k : Nat) d, ds[k]? = some d → DeedOk (m + k) d
structure RowOk (m : Int) (ds : List Deed) (o : Int) : Prop where
  m1 : 1 ≤ m
  m3 : m ≤ 3
  len : ds.length ≤ 8
  deeds : DsOk m ds
  o0 : 0 ≤ o
  o1 : o < m + ds.length
/-- all tuples stand -/
def TupsStay (H H' : Hp) : Prop := ∀ b xs, H b = some (.tup xs) → H' b = some (.tup xs)
theorem Same.tups {H H' : Hp} (s : Same H H') : TupsStay H H' := fun b xs e => s b _ e
theorem Kp.tups {a c : Addr} {H H' : Hp} (k : Kp a c H H') (w : WL H a c) : TupsStay H H' := fun b xs e => k.tup w e
theorem TupsStay.trans {H H1 H2 : Hp} (a : TupsStay H H1) (b : TupsStay H1 H2) : TupsStay H H2 := fun c xs e => b c xs (a c xs e)
theorem tups_put {H : Hp} {l : Addr} {xs : List V} {o : HO} (h : H l = some (.lst xs)) : TupsStay H (upd H l o) := fun b ys e => by
  rw [upd_ne (ne_of e h (fun z => nomatch z))]
  exact e
theorem TupsStay.ds {H H' : Hp} (t : TupsStay H H') {rs : List Addr} {ds : List Deed} (h : DsAt H rs ds) : DsAt H' rs ds := awMap (fun r d e => t r _ e) h
theorem TupsStay.row {H H' : Hp} (t : TupsStay H H') {R : Addr} {m o : Int} {ds : List Deed} (h : RowAt H R m ds o) : RowAt H' R m ds o := by
  obtain ⟨D, rs, e1, e2, e3⟩ := h
  exact ⟨D, rs, t _ _ e1, t _ _ e2, t.ds e3⟩
theorem dsOk_snoc {m : Int} {ds : List Deed} {d : Deed} (h : DsOk m ds) (k : DeedOk (m + ds.length) d) : DsOk m (ds ++ [d]) := by
  constructor
  intro i d' e
  by_cases hi : i < ds.length
  · rw [List.getElem?_append_left hi] at e
    exact h.each i d' e
  · rw [List.getElem?_append_right (by omega)] at e
    obtain ⟨h1, h2⟩ := List.getElem?_eq_some_iff.mp e
    have h3 : i = ds.length := by simp only [List.length_cons, List.length_nil] at h1; omega
    subst h3
    simp at h2
    subst h2
    exact k
/-! ### data that is shown in few signs -/
structure Nice (b k : Nat) (d : PyData) : Prop where
  sh : d.showable = true
  lv : d.leavesShort 21 = true
  bk : d.bulk ≤ b
  dp : d.depth ≤ k
theorem Nice.fits {b k : Nat} {d : PyData} (h : Nice b k d) (hb : b ≤ 100000) : d.shown.length ≤ sizeLine := by
  have h1 := PyData.shown_le_bulk 21 (by decide) d h.lv
  have h2 := h.bk
  rw [sizeLine_eq]
  omega
theorem Nice.mono {b b2 k k2 : Nat} {d : PyData} (h : Nice b k d) (hb : b ≤ b2) (hk : k ≤ k2) : Nice b2 k2 d := ⟨h.sh, h.lv, Nat.le_trans h.bk hb, Nat.le_trans h.dp hk⟩
theorem nice_int {i : Int} (h : i.natAbs < 10 ^ 20) : Nice 0 0 (.int i) := by
  refine ⟨?_, ?_, ?_, ?_⟩
  · simp only [PyData.showable, decide_eq_true_eq]
    have : i.natAbs < 2 ^ 70 := Nat.lt_trans h (by decide)
    by_cases e : i.natAbs = 0
    · rw [e]; decide
    · have := (Nat.log2_lt e).mpr this
      omega
  · simp only [PyData.leavesShort, decide_eq_true_eq]
    have e := int_text_length_le10 (k := 20) (by decide) h
    simp only [PyData.shown]
    rw [PySem.ofString_length]
    exact e
  · simp only [PyData.bulk, Nat.le_refl]
  · simp only [PyData.depth, Nat.le_refl]
theorem nice_str {x : Str} {n : Nat} (h : x.cps.size ≤ n) (hx : (x.cps.toList.all fun c => decide (c < 16 ^ 8)) = true) : Nice n 0 (.str x) := by
  refine ⟨?_, ?_, ?_, ?_⟩
  · simp only [PyData.showable]
  · simp only [PyData.leavesShort]
    exact hx
  · simp only [PyData.bulk]
    exact h
  · simp only [PyData.depth, Nat.le_refl]
theorem nice_all {b k : Nat} : ∀ {xs : List PyData}, (∀ x ∈ xs, Nice b k x) → PyData.showableAll xs = true ∧ PyData.leavesShortAll 21 xs = true ∧ PyData.bulkAll xs ≤ xs.length * (b + 1) ∧ PyData.depthAll xs ≤ k
  | [], _ => ⟨by simp only [PyData.showableAll], by simp only [PyData.leavesShortAll], by simp only [PyData.bulkAll, Nat.zero_le], by simp only [PyData.depthAll, Nat.zero_le]⟩
  | x :: xs, h => by
    obtain ⟨h1, h2, h3, h4⟩ := nice_all fun y hy => h y (List.mem_cons_of_mem _ hy)
    obtain ⟨g1, g2, g3, g4⟩ := h x List.mem_cons_self
    refine ⟨by simp only [PyData.showableAll, g1, h1, Bool.and_self], by simp only [PyData.leavesShortAll, g2, h2, Bool.and_self], ?_, ?_⟩
    · simp only [PyData.bulkAll, List.length_cons, Nat.add_mul, Nat.one_mul]
      omega
    · simp only [PyData.depthAll]
      omega
theorem nice_tup {b k n : Nat} {xs : List PyData} (h : ∀ x ∈ xs, Nice b k x) (hn : xs.length * (b + 1) ≤ n) : Nice n (k + 1) (.tuple xs) := by
  obtain ⟨h1, h2, h3, h4⟩ := nice_all h
  exact ⟨by simpa only [PyData.showable] using h1, by simpa only [PyData.leavesShort] using h2, by simp only [PyData.bulk]; omega, by simp only [PyData.depth]; omega⟩
theorem nice_lst {b k n : Nat} {xs : List PyData} (h : ∀ x ∈ xs, Nice b k x) (hn : xs.length * (b + 1) ≤ n) : Nice n (k + 1) (.list xs) := by
  obtain ⟨h1, h2, h3, h4⟩ := nice_all h
  exact ⟨by simpa only [PyData.showable] using h1, by simpa only [PyData.leavesShort] using h2, by simp only [PyData.bulk]; omega, by simp only [PyData.depth]; omega⟩
def deedD (d : Deed) : PyData := .tuple (.str d.1 :: d.2.map PyData.int)
def rowD (m : Int) (ds : List Deed) (o : Int) : PyData := .tuple [.int m, .tuple (ds.map deedD), .int o]
theorem fw_short : ∀ p ∈ fwL, p.1.cps.size ≤ 5 ∧ (p.1.cps.toList.all fun c => decide (c < 16 ^ 8)) = true ∧ p.2 ≤ 2 := by decide +kernel
theorem nice_deed {m : Int} {d : Deed} (h : DeedOk m d) (hm : m ≤ 100) : Nice 18 1 (deedD d) := by
  obtain ⟨h1, h2, h3⟩ := fw_short _ h.word
  refine nice_tup (b := 5) (k := 0) (fun x hx => ?_) ?_
  · rcases List.mem_cons.mp hx with rfl | hx
    · exact nice_str h1 h2
    · obtain ⟨i, hi, rfl⟩ := List.mem_map.mp hx
      obtain ⟨i0, i1⟩ := h.ahead i hi
      exact (nice_int (by omega)).mono (by decide) (by decide)
  · rw [List.length_cons, List.length_map]
    have : (d.2.length : Int) ≤ 2 := h3
    omega
theorem nice_row {m o : Int} {ds : List Deed} (h : RowOk m ds o) : Nice 459 3 (rowD m ds o) := by
  have hm := h.m1
  have hm3 := h.m3
  have hl := h.len
  have ho := h.o0
  have ho1 := h.o1
  refine nice_tup (b := 152) (k := 2) (fun x hx => ?_) (by simp only [List.length_cons, List.length_nil]; decide)
  simp only [List.mem_cons, List.not_mem_nil, or_false] at hx
  rcases hx with rfl | rfl | rfl
  · exact (nice_int (by omega)).mono (by decide) (by decide)
  · refine nice_tup (b := 18) (k := 1) (fun x hx => ?_) ?_
    · obtain ⟨d, hd, rfl⟩ := List.mem_map.mp hx
      obtain ⟨k, hk⟩ := List.mem_iff_getElem?.mp hd
      have hk1 := (List.getElem?_eq_some_iff.mp hk).1
      exact nice_deed (h.deeds.each k d hk) (by omega)
    · rw [List.length_map]
      omega
  · exact (nice_int (by omega)).mono (by decide) (by decide)
/-! ### what the row reads -/
section
variable {X : Cx}
theorem rz_ints (H : Hp) : ∀ l : List Int, Paired (Rz X H) (l.map V.int) (l.map PyData.int)
  | [] => .nil
  | i :: l => .cons (Rz.int H i) (rz_ints H l)
theorem rz_deed {H : Hp} {r : Addr} {d : Deed} (h : H r = some (.tup (dV d))) : Rz X H (.ref r) (deedD d) := Rz.tup (SqT.of h) (.cons (Rz.str H _) (rz_ints H _))
theorem rz_deeds {H : Hp} : ∀ {rs : List Addr} {ds : List Deed}, DsAt H rs ds → Paired (Rz X H) (rs.map V.ref) (ds.map deedD)
  | _, _, .nil => .nil
  | _, _, .cons h t => .cons (rz_deed h) (rz_deeds t)
theorem rz_row {H : Hp} {R : Addr} {m o : Int} {ds : List Deed} (h : RowAt H R m ds o) : Rz X H (.ref R) (rowD m ds o) := by
  obtain ⟨D, rs, e1, e2, e3⟩ := h
  exact Rz.tup (SqT.of e1) (.cons (Rz.int H m) (.cons (Rz.tup (SqT.of e2) (rz_deeds e3)) (.cons (Rz.int H o) .nil)))
/-- a dict of texts and ints -/
abbrev siK (es : List (Str × Int)) : List (Key × V) := es.map fun p => (Sum.inr p.1, .int p.2)
theorem si_reads {prog : Program} {w : World} {h : Heap} : ∀ (es : List (Str × Int)) (vs : List (Key × Value)) (en : List DictEntry), KV (siK es) vs → Pairs (mixKind prog w) en vs →
    ReadsAll h (en.map (·.key)) ((es.map fun p => (PyData.str p.1, PyData.int p.2)).map (·.1)) [] ∧ ReadsAll h (en.map (·.val)) ((es.map fun p => (PyData.str p.1, PyData.int p.2)).map (·.2)) []
  | [], _, _, .nil, .nil => ⟨.nil, .nil⟩
  | (x, i) :: es, _, _, .cons hh t, .cons hk hv hp => by
    obtain ⟨h1, h2⟩ := si_reads es _ _ t hp
    obtain ⟨k1, t1, e1⟩ := hh
    rw [← k1] at hk
    obtain ⟨t2, e2⟩ := Value.isStrOf_shape (x := x) hk
    refine ⟨?_, ?_⟩
    · simp only [List.map_cons]
      rw [e2]
      exact ReadsAll.cons (as := []) (Reads.str x t2) h1
    · simp only [List.map_cons]
      rw [hv, e1]
      exact ReadsAll.cons (as := []) (Reads.int i t1) h2
theorem rz_dict {H : Hp} {C : Addr} {es : List (Str × Int)} (h : H C = some (.dK (siK es))) : Rz X H (.ref C) (.dict (es.map fun p => (PyData.str p.1, PyData.int p.2))) := by
  intro pins σ s u I r
  obtain rfl : u = Value.ref C := r
  obtain ⟨_, hs, vs, hkv, o, en, ep, e1, e2, e3, e4, e5, e6⟩ := I.hok C _ h
  obtain ⟨r1, r2⟩ := si_reads (prog := X.prog) (w := X.w) (h := s.heap) es vs _ hkv e5
  refine ⟨_, Reads.dict e1 e2.1 e3 r1 r2, ?_⟩
  intro z
  simp only [List.append_nil, List.mem_cons, List.not_mem_nil, or_false] at z
  rw [← z] at hs
  simp at hs
end
theorem nice_dict {n : Nat} : ∀ {es : List (Str × Int)}, (∀ p ∈ es, p.1.cps.size ≤ 5 ∧ (p.1.cps.toList.all fun c => decide (c < 16 ^ 8)) = true ∧ p.2.natAbs < 10 ^ 20) → es.length * 7 ≤ n →
    Nice n 1 (.dict (es.map fun p => (PyData.str p.1, PyData.int p.2))) := by
  intro es h hn
  have key : ∀ es : List (Str × Int), (∀ p ∈ es, p.1.cps.size ≤ 5 ∧ (p.1.cps.toList.all fun c => decide (c < 16 ^ 8)) = true ∧ p.2.natAbs < 10 ^ 20) →
      PyData.showableKv (es.map fun p => (PyData.str p.1, PyData.int p.2)) = true ∧ PyData.leavesShortKv 21 (es.map fun p => (PyData.str p.1, PyData.int p.2)) = true ∧ PyData.bulkKv (es.map fun p => (PyData.str p.1, PyData.int p.2)) ≤ es.length * 7 ∧ PyData.depthKv (es.map fun p => (PyData.str p.1, PyData.int p.2)) = 0 := by
    intro es
    induction es with
    | nil => intro _; exact ⟨by simp only [List.map_nil, PyData.showableKv], by simp only [List.map_nil, PyData.leavesShortKv], by simp only [List.map_nil, PyData.bulkKv, Nat.zero_le], by simp only [List.map_nil, PyData.depthKv]⟩
    | cons p es ih =>
      intro h
      obtain ⟨h1, h2, h3, h4⟩ := ih fun q hq => h q (List.mem_cons_of_mem _ hq)
      obtain ⟨a, b, c⟩ := h p List.mem_cons_self
      obtain ⟨i1, i2, i3, i4⟩ := nice_int c
      obtain ⟨s1, s2, s3, s4⟩ := nice_str a b
      refine ⟨by simp only [List.map_cons, PyData.showableKv, i1, s1, h1, Bool.and_self], by simp only [List.map_cons, PyData.leavesShortKv, i2, s2, h2, Bool.and_self], ?_, ?_⟩
      · simp only [List.map_cons, PyData.bulkKv, List.length_cons]
        omega
      · simp only [List.map_cons, PyData.depthKv]
        omega
  obtain ⟨h1, h2, h3, h4⟩ := key es h
  exact ⟨by simpa only [PyData.showable] using h1, by simpa only [PyData.leavesShort] using h2, by simp only [PyData.bulk]; omega, by simp only [PyData.depth]; omega⟩
/-! ### values of rows -/
theorem strEq {x y : Str} (h : decide (V.str x = V.str y) = true) : x = y := V.str.inj (of_decide_eq_true h)
theorem strNe {x y : Str} (h : ¬ decide (V.str x = V.str y) = true) : ¬ x = y := fun e => h (decide_eq_true (congrArg V.str e))
def argAt (d : Deed) (told : List Int) (k : Nat) : Int := told.getD (d.2.getD k 0).toNat 0
def dvalue (x : Str) (A B size : Int) : Int :=
  if x = "none" then 0 else if x = "one" then 1 else if x = "all" then size - 1 else if x = "not" then size - 1 - A else if x = "neg" then -A else if x = "twice" then A + A
  else if x = "and" then Builtin.bitAnd A B else if x = "or" then Builtin.bitOr A B else if x = "xor" then Builtin.bitXor A B else if x = "add" then A + B else A - B
def dval (size : Int) (d : Deed) (told : List Int) : Int := dvalue d.1 (argAt d told 0) (argAt d told 1) size % size
def vals (size : Int) : List Deed → List Int → List Int
  | [], told => told
  | d :: ds, told => vals size ds (told ++ [dval size d told])
theorem vals_append (size : Int) : ∀ (l1 l2 : List Deed) (t : List Int), vals size (l1 ++ l2) t = vals size l2 (vals size l1 t)
  | [], _, _ => rfl
  | d :: l1, l2, t => vals_append size l1 l2 (t ++ [dval size d t])
theorem vals_len {size : Int} : ∀ (ds : List Deed) (t : List Int), (vals size ds t).length = t.length + ds.length
  | [], _ => rfl
  | d :: ds, t => by
    show (vals size ds (t ++ [dval size d t])).length = _
    rw [vals_len ds, List.length_append, List.length_cons, List.length_cons, List.length_nil]
    omega
theorem vals_next {size : Int} {ds : List Deed} {i : Nat} {d : Deed} {t : List Int} (h : ds[i]? = some d) : vals size (ds.take (i + 1)) t = vals size (ds.take i) t ++ [dval size d (vals size (ds.take i) t)] := by
  rw [List.take_add_one, h, vals_append]
  rfl
theorem atI_ints {l : List Int} {o : Int} (h0 : 0 ≤ o) (h1 : o < l.length) : atI (l.map V.int) o = some (.int (l.getD o.toNat 0)) := by
  obtain ⟨k, rfl⟩ := Int.eq_ofNat_of_zero_le h0
  have hk : k < l.length := by omega
  apply atI_nat
  rw [List.getElem?_map, List.getElem?_eq_getElem hk, Int.toNat_natCast, List.getD_eq_getElem?_getD, List.getElem?_eq_getElem hk]
  rfl
theorem fw_one : ∀ p ∈ fwL, ¬ p.1 = "none" → ¬ p.1 = "one" → ¬ p.1 = "all" → 1 ≤ p.2 := by decide +kernel
theorem fw_two' : ∀ p ∈ fwL, (decide (p.1 ∈ (["none", "one", "all", "not", "neg", "twice"] : List Str)) || decide (2 ≤ p.2)) = true := by decide +kernel
theorem fw_two (p : Str × Int) (h : p ∈ fwL) (n1 : ¬ p.1 = "none") (n2 : ¬ p.1 = "one") (n3 : ¬ p.1 = "all") (n4 : ¬ p.1 = "not") (n5 : ¬ p.1 = "neg") (n6 : ¬ p.1 = "twice") : 2 ≤ p.2 := by
  have e := fw_two' p h
  rw [Bool.or_eq_true] at e
  rcases e with e | e
  · have e2 := of_decide_eq_true e
    simp only [List.mem_cons, List.not_mem_nil, or_false] at e2
    rcases e2 with e2 | e2 | e2 | e2 | e2 | e2
    · exact absurd e2 n1
    · exact absurd e2 n2
    · exact absurd e2 n3
    · exact absurd e2 n4
    · exact absurd e2 n5
    · exact absurd e2 n6
  · exact of_decide_eq_true e
theorem arg_of {d : Deed} {told : List Int} (h : DeedOk told.length d) {k : Nat} (hk : k < d.2.length) : ∃ i, d.2[k]? = some i ∧ 0 ≤ i ∧ atI (told.map V.int) i = some (.int (argAt d told k)) := by
  have hg := List.getElem?_eq_getElem hk
  obtain ⟨i0, i1⟩ := h.ahead _ (List.getElem_mem hk)
  refine ⟨d.2[k], hg, i0, ?_⟩
  rw [atI_ints i0 i1]
  unfold argAt
  rw [List.getD_eq_getElem?_getD (l := d.2), hg]
  rfl
theorem arg1 {d : Deed} {told : List Int} (h : DeedOk told.length d) (n1 : ¬ d.1 = "none") (n2 : ¬ d.1 = "one") (n3 : ¬ d.1 = "all") : ∃ i, d.2[0]? = some i ∧ 0 ≤ i ∧ atI (told.map V.int) i = some (.int (argAt d told 0)) :=
  arg_of h (by have := fw_one _ h.word n1 n2 n3; show 0 < d.2.length; have e : (1 : Int) ≤ (d.2.length : Int) := this; omega)
theorem arg2 {d : Deed} {told : List Int} (h : DeedOk told.length d) (n1 : ¬ d.1 = "none") (n2 : ¬ d.1 = "one") (n3 : ¬ d.1 = "all") (n4 : ¬ d.1 = "not") (n5 : ¬ d.1 = "neg") (n6 : ¬ d.1 = "twice") :
    ∃ i, d.2[1]? = some i ∧ 0 ≤ i ∧ atI (told.map V.int) i = some (.int (argAt d told 1)) :=
  arg_of h (by have := fw_two _ h.word n1 n2 n3 n4 n5 n6; show 1 < d.2.length; have e : (2 : Int) ≤ (d.2.length : Int) := this; omega)
/-! ### the low bits of values -/
theorem pw_cast (n : Nat) : (2 : Int) ^ n = ((2 ^ n : Nat) : Int) := (PySem.W.kbt_cast n).symm
theorem pw_le {n k : Nat} (h : n ≤ k) : (2 : Int) ^ n ≤ 2 ^ k := by
  rw [pw_cast, pw_cast]
  exact Int.ofNat_le.mpr (Nat.pow_le_pow_right (by decide) h)
theorem pw_pos (n : Nat) : (0 : Int) < 2 ^ n := Int.pow_pos (by decide)
theorem castMod (a n : Nat) : ((a : Int) % 2 ^ n) = ((a % 2 ^ n : Nat) : Int) := by rw [pw_cast, Int.natCast_emod]
theorem low_and {A B : Int} (n : Nat) (ha : 0 ≤ A) (hb : 0 ≤ B) : Builtin.bitAnd (A % 2 ^ n) (B % 2 ^ n) % 2 ^ n = Builtin.bitAnd A B % 2 ^ n := by
  obtain ⟨a, rfl⟩ := Int.eq_ofNat_of_zero_le ha
  obtain ⟨b, rfl⟩ := Int.eq_ofNat_of_zero_le hb
  rw [castMod, castMod, bitAnd_pp (Int.natCast_nonneg _) (Int.natCast_nonneg _), bitAnd_pp (Int.natCast_nonneg _) (Int.natCast_nonneg _), castMod, castMod]
  simp only [Int.toNat_natCast]
  rw [Nat.and_mod_two_pow, Nat.and_mod_two_pow, Nat.mod_mod, Nat.mod_mod]
theorem low_or {A B : Int} (n : Nat) (ha : 0 ≤ A) (hb : 0 ≤ B) : Builtin.bitOr (A % 2 ^ n) (B % 2 ^ n) % 2 ^ n = Builtin.bitOr A B % 2 ^ n := by
  obtain ⟨a, rfl⟩ := Int.eq_ofNat_of_zero_le ha
  obtain ⟨b, rfl⟩ := Int.eq_ofNat_of_zero_le hb
  rw [castMod, castMod, bitOr_nn (Int.natCast_nonneg _) (Int.natCast_nonneg _), bitOr_nn (Int.natCast_nonneg _) (Int.natCast_nonneg _), castMod, castMod]
  simp only [Int.toNat_natCast]
  rw [Nat.or_mod_two_pow, Nat.or_mod_two_pow, Nat.mod_mod, Nat.mod_mod]
theorem low_xor {A B : Int} (n : Nat) (ha : 0 ≤ A) (hb : 0 ≤ B) : Builtin.bitXor (A % 2 ^ n) (B % 2 ^ n) % 2 ^ n = Builtin.bitXor A B % 2 ^ n := by
  obtain ⟨a, rfl⟩ := Int.eq_ofNat_of_zero_le ha
  obtain ⟨b, rfl⟩ := Int.eq_ofNat_of_zero_le hb
  rw [castMod, castMod, Bits.bitXor_pp (Int.natCast_nonneg _) (Int.natCast_nonneg _), Bits.bitXor_pp (Int.natCast_nonneg _) (Int.natCast_nonneg _), castMod, castMod]
  simp only [Int.toNat_natCast]
  rw [Nat.xor_mod_two_pow, Nat.xor_mod_two_pow, Nat.mod_mod, Nat.mod_mod]
theorem pw_dvd {n k : Nat} (h : n ≤ k) : (2 : Int) ^ n ∣ 2 ^ k := ⟨2 ^ (k - n), by rw [← Int.pow_add]; congr 1; omega⟩
theorem emod_same {a b m : Int} (k : Int) (h : a - b = m * k) : a % m = b % m := Int.emod_eq_emod_iff_emod_sub_eq_zero.mpr (by rw [h]; exact Int.mul_emod_right m k)
theorem dvalue_low' {x : Str} {N c qa qb ra rb A B : Int} (ea : N * qa + ra = A) (eb : N * qb + rb = B) (l1 : Builtin.bitAnd ra rb % N = Builtin.bitAnd A B % N) (l2 : Builtin.bitOr ra rb % N = Builtin.bitOr A B % N)
    (l3 : Builtin.bitXor ra rb % N = Builtin.bitXor A B % N) : dvalue x ra rb N % N = dvalue x A B (N * c) % N := by
  unfold dvalue
  by_cases h1 : x = "none"
  · rw [if_pos h1, if_pos h1]
  rw [if_neg h1, if_neg h1]
  by_cases h2 : x = "one"
  · rw [if_pos h2, if_pos h2]
  rw [if_neg h2, if_neg h2]
  by_cases h3 : x = "all"
  · rw [if_pos h3, if_pos h3]
    exact emod_same (1 - c) (by rw [Int.mul_sub, Int.mul_one]; omega)
  rw [if_neg h3, if_neg h3]
  by_cases h4 : x = "not"
  · rw [if_pos h4, if_pos h4]
    exact emod_same (1 - c + qa) (by rw [Int.mul_add, Int.mul_sub, Int.mul_one]; omega)
  rw [if_neg h4, if_neg h4]
  by_cases h5 : x = "neg"
  · rw [if_pos h5, if_pos h5]
    exact emod_same qa (by omega)
  rw [if_neg h5, if_neg h5]
  by_cases h6 : x = "twice"
  · rw [if_pos h6, if_pos h6]
    exact emod_same (-qa - qa) (by rw [Int.mul_sub, Int.mul_neg]; omega)
  rw [if_neg h6, if_neg h6]
  by_cases h7 : x = "and"
  · rw [if_pos h7, if_pos h7]
    exact l1
  rw [if_neg h7, if_neg h7]
  by_cases h8 : x = "or"
  · rw [if_pos h8, if_pos h8]
    exact l2
  rw [if_neg h8, if_neg h8]
  by_cases h9 : x = "xor"
  · rw [if_pos h9, if_pos h9]
    exact l3
  rw [if_neg h9, if_neg h9]
  by_cases h10 : x = "add"
  · rw [if_pos h10, if_pos h10]
    exact emod_same (-qa - qb) (by rw [Int.mul_sub, Int.mul_neg]; omega)
  rw [if_neg h10, if_neg h10]
  exact emod_same (qb - qa) (by rw [Int.mul_sub]; omega)
theorem dvalue_low {x : Str} {A B : Int} {n k : Nat} (hA : 0 ≤ A) (hB : 0 ≤ B) (h : n ≤ k) : dvalue x (A % 2 ^ n) (B % 2 ^ n) (2 ^ n) % 2 ^ n = dvalue x A B (2 ^ k) % 2 ^ n := by
  obtain ⟨c, hc⟩ := pw_dvd h
  rw [hc]
  exact dvalue_low' (Int.mul_ediv_add_emod A (2 ^ n)) (Int.mul_ediv_add_emod B (2 ^ n)) (low_and n hA hB) (low_or n hA hB) (low_xor n hA hB)
theorem getD_low (N : Int) (l : List Int) (i : Nat) : (l.map (· % N)).getD i 0 = l.getD i 0 % N := by
  rw [List.getD_eq_getElem?_getD, List.getD_eq_getElem?_getD, List.getElem?_map]
  cases l[i]? with
  | none => exact (Int.zero_emod N).symm
  | some y => rfl
theorem arg_nn {told : List Int} (h : ∀ x ∈ told, 0 ≤ x) (d : Deed) (j : Nat) : 0 ≤ argAt d told j := by
  unfold argAt
  rw [List.getD_eq_getElem?_getD]
  cases e : told[(d.2.getD j 0).toNat]? with
  | none => exact Int.le_refl 0
  | some y => exact h y (List.mem_of_getElem? e)
theorem dval_low {d : Deed} {told : List Int} {n k : Nat} (h : ∀ x ∈ told, 0 ≤ x) (hk : n ≤ k) : dval (2 ^ n) d (told.map (· % 2 ^ n)) = dval (2 ^ k) d told % 2 ^ n := by
  unfold dval
  have e : ∀ j, argAt d (told.map (· % 2 ^ n)) j = argAt d told j % 2 ^ n := fun j => getD_low _ _ _
  rw [e, e, dvalue_low (arg_nn h d 0) (arg_nn h d 1) hk, Int.emod_emod_of_dvd _ (pw_dvd hk)]
theorem vals_low {n k : Nat} (hk : n ≤ k) : ∀ (ds : List Deed) (told : List Int), (∀ x ∈ told, 0 ≤ x) → vals (2 ^ n) ds (told.map (· % 2 ^ n)) = (vals (2 ^ k) ds told).map (· % 2 ^ n)
  | [], _, _ => rfl
  | d :: ds, told, h => by
    show vals (2 ^ n) ds (told.map (· % 2 ^ n) ++ [dval (2 ^ n) d (told.map (· % 2 ^ n))]) = (vals (2 ^ k) ds (told ++ [dval (2 ^ k) d told])).map (· % 2 ^ n)
    rw [dval_low h hk, ← vals_low hk ds, List.map_append]
    · rfl
    · intro x hx
      rcases List.mem_append.mp hx with hx | hx
      · exact h x hx
      · rw [List.mem_singleton.mp hx]
        exact Int.emod_nonneg _ (by have := pw_pos k; omega)
theorem vals_range {size : Int} (hs : 0 < size) : ∀ (ds : List Deed) (told : List Int), (∀ x ∈ told, 0 ≤ x ∧ x < size) → ∀ x ∈ vals size ds told, 0 ≤ x ∧ x < size
  | [], _, h => h
  | d :: ds, told, h => by
    refine vals_range hs ds (told ++ [dval size d told]) fun x hx => ?_
    rcases List.mem_append.mp hx with hx | hx
    · exact h x hx
    · rw [List.mem_singleton.mp hx]
      exact ⟨Int.emod_nonneg _ (by omega), Int.emod_lt_of_pos _ hs⟩
/-! ### lists of ints compared -/
theorem eqv_ints : ∀ l : List Int, PyData.eqv (.list (l.map PyData.int)) (.list (l.map PyData.int)) = true := fun l => SeqAt.eqv_refl _ (SeqAt.canLay_of_shaped (shaped_ints l))
theorem dget_at {H : Hp} {a : Addr} {kvs : List (Key × V)} {k : Key} {v : V} (e : H a = some (.dK kvs)) (h : valV kvs k = some v) : DGet H a (kV k) (some v) := h ▸ DGet.k e
theorem fw_cases {x : Str} {n : Nat} (h : (x, (n : Int)) ∈ fwL) : (n = 0 ∧ (x = "none" ∨ x = "one" ∨ x = "all")) ∨ (n = 1 ∧ (x = "not" ∨ x = "neg" ∨ x = "twice")) ∨ (n = 2 ∧ (x = "and" ∨ x = "or" ∨ x = "xor" ∨ x = "add" ∨ x = "sub")) := by
  unfold fwL at h
  simp only [List.mem_cons, List.not_mem_nil, or_false, Prod.mk.injEq] at h
  rcases h with h | h | h | h | h | h | h | h | h | h | h
  · exact .inl ⟨by omega, .inl h.1⟩
  · exact .inl ⟨by omega, .inr (.inl h.1)⟩
  · exact .inl ⟨by omega, .inr (.inr h.1)⟩
  · exact .inr (.inl ⟨by omega, .inl h.1⟩)
  · exact .inr (.inl ⟨by omega, .inr (.inl h.1)⟩)
  · exact .inr (.inl ⟨by omega, .inr (.inr h.1)⟩)
  · exact .inr (.inr ⟨by omega, .inl h.1⟩)
  · exact .inr (.inr ⟨by omega, .inr (.inl h.1)⟩)
  · exact .inr (.inr ⟨by omega, .inr (.inr (.inl h.1))⟩)
  · exact .inr (.inr ⟨by omega, .inr (.inr (.inr (.inl h.1)))⟩)
  · exact .inr (.inr ⟨by omega, .inr (.inr (.inr (.inr h.1)))⟩)
theorem and_lt {A B : Int} {n : Nat} (a0 : 0 ≤ A) (a1 : A < 2 ^ n) (b0 : 0 ≤ B) : Builtin.bitAnd A B % 2 ^ n = Builtin.bitAnd A B := by
  obtain ⟨a, rfl⟩ := Int.eq_ofNat_of_zero_le a0
  obtain ⟨b, rfl⟩ := Int.eq_ofNat_of_zero_le b0
  rw [bitAnd_pp (Int.natCast_nonneg _) (Int.natCast_nonneg _), castMod]
  rw [pw_cast] at a1
  simp only [Int.toNat_natCast]
  rw [Nat.mod_eq_of_lt (Nat.lt_of_le_of_lt Nat.and_le_left (by omega))]
theorem or_lt {A B : Int} {n : Nat} (a0 : 0 ≤ A) (a1 : A < 2 ^ n) (b0 : 0 ≤ B) (b1 : B < 2 ^ n) : Builtin.bitOr A B % 2 ^ n = Builtin.bitOr A B := by
  obtain ⟨a, rfl⟩ := Int.eq_ofNat_of_zero_le a0
  obtain ⟨b, rfl⟩ := Int.eq_ofNat_of_zero_le b0
  rw [bitOr_nn (Int.natCast_nonneg _) (Int.natCast_nonneg _), castMod]
  rw [pw_cast] at a1 b1
  simp only [Int.toNat_natCast]
  rw [Nat.mod_eq_of_lt (Nat.or_lt_two_pow (by omega) (by omega))]
theorem xor_lt {A B : Int} {n : Nat} (a0 : 0 ≤ A) (a1 : A < 2 ^ n) (b0 : 0 ≤ B) (b1 : B < 2 ^ n) : Builtin.bitXor A B % 2 ^ n = Builtin.bitXor A B := by
  obtain ⟨a, rfl⟩ := Int.eq_ofNat_of_zero_le a0
  obtain ⟨b, rfl⟩ := Int.eq_ofNat_of_zero_le b0
  rw [Bits.bitXor_pp (Int.natCast_nonneg _) (Int.natCast_nonneg _), castMod]
  rw [pw_cast] at a1 b1
  simp only [Int.toNat_natCast]
  rw [Nat.mod_eq_of_lt (Nat.xor_lt_two_pow (by omega) (by omega))]
/-! ### all but the first -/
theorem sIx_one (x : V) (xs : List V) : HT.sIx (x :: xs).length 0 (some 1) = 1 := by
  have e : HT.sIx (x :: xs).length 0 (some 1) = min 1 (x :: xs).length := HT.sIx_nat (x :: xs).length 0 1
  rw [e, List.length_cons]
  omega
theorem cutTail (x : V) (xs : List V) : cutV (x :: xs) (some 1) none = xs := by
  have h2 : HT.sIx (x :: xs).length (x :: xs).length none = (x :: xs).length := HT.sIx_none _ _
  unfold cutV
  rw [sIx_one, h2]
  simp
theorem notWhole (x : V) (xs : List V) : ¬ (HT.sIx (x :: xs).length 0 (some 1) = 0 ∧ HT.sIx (x :: xs).length (x :: xs).length none = (x :: xs).length) := by
  rw [sIx_one]
  exact fun h => absurd h.1 (by decide)
theorem intEq {x y : Int} (h : decide (V.int x = V.int y) = true) : x = y := V.int.inj (of_decide_eq_true h)
theorem intNe {x y : Int} (h : ¬ decide (V.int x = V.int y) = true) : ¬ x = y := fun e => h (decide_eq_true (congrArg V.int e))
/-! ### t + u of two tuples at hand, whatever they hold -/
section
variable {X : Cx}
def rCatZ : R2 := fun x y H Q => ∃ a b xs ys, x = .ref a ∧ y = .ref b ∧ H a = some (.tup xs) ∧ H b = some (.tup ys) ∧ xs.length + ys.length ≤ sizeLine ∧ ∀ p H2, Same H H2 → H2 p = some (.tup (xs ++ ys)) → Q (.ref p) H2
theorem op_catZ : OpR X (binaryOp .Add) rCatZ := by
  intro pins s σ H x y v u Q I rx ry h
  obtain ⟨a, b, xs, ys, rfl, rfl, ha, hb, hz, q⟩ := h
  refine op_catA pins s σ H _ _ v u Q I rx ry ⟨a, b, xs, ys, rfl, rfl, SqT.of ha, SqT.of hb, hz, fun e => ?_, fun _ e => ?_, fun _ _ p hp => ?_⟩
  · subst e
    exact q b H (Same.refl H) hb
  · subst e
    exact q a H (Same.refl H) (by rw [List.append_nil]; exact ha)
  · exact q p _ (same_new hp) upd_same
end
theorem awAppend {α β : Type} {F : α → β → Prop} : ∀ {l k : List α} {l2 k2 : List β}, Paired F l l2 → Paired F k k2 → Paired F (l ++ k) (l2 ++ k2)
  | _, _, _, _, .nil, h => h
  | _, _, _, _, .cons r t, h => .cons r (awAppend t h)
theorem dsOk_append {m t : Int} {ds es : List Deed} (h : DsOk m ds) (k : DsOk t es) (e : t = m + ds.length) : DsOk m (ds ++ es) := by
  constructor
  intro i d hi
  by_cases hl : i < ds.length
  · rw [List.getElem?_append_left hl] at hi
    exact h.each i d hi
  · rw [List.getElem?_append_right (by omega)] at hi
    have := k.each _ d hi
    rw [e] at this
    have e2 : m + (ds.length : Int) + ((i - ds.length : Nat) : Int) = m + i := by omega
    rw [e2] at this
    exact this
/-- all but one stands as it stood -/
def But (f : Addr) (H H2 : Hp) : Prop := ∀ b o, b ≠ f → H b = some o → H2 b = some o
theorem But.trans {f : Addr} {H H1 H2 : Hp} (a : But f H H1) (b : But f H1 H2) : But f H H2 := fun c o n e => b c o n (a c o n e)
theorem But.same {f : Addr} {H H2 : Hp} (s : Same H H2) : But f H H2 := fun b o _ e => s b o e
theorem But.put {f : Addr} {H : Hp} {o : HO} : But f H (upd H f o) := fun b u n e => by
  rw [upd_ne n]
  exact e
theorem But.tups {f : Addr} {H H2 : Hp} {xs : List V} (h : But f H H2) (e : H f = some (.lst xs)) : TupsStay H H2 := fun b ys z => h b _ (ne_of z e (fun q => nomatch q)) z
/-! ### the tape -/
def TP (H : Hp) (a : Addr) : Prop := ∃ x y : Int, H a = some (.lst [.int x, .int y])
theorem TP.same {H H2 : Hp} {a : Addr} (h : TP H a) (s : Same H H2) : TP H2 a := by
  obtain ⟨x, y, e⟩ := h
  exact ⟨x, y, s _ _ e⟩
theorem TP.ne_new {H : Hp} {a p : Addr} (h : TP H a) (e : H p = none) : p ≠ a := by
  obtain ⟨x, y, e1⟩ := h
  exact (ne_of_none e1 e).symm
theorem TP.upd {H : Hp} {a p : Addr} {o : HO} (h : TP H a) (n : p ≠ a) : TP (upd H p o) a := by
  obtain ⟨x, y, e1⟩ := h
  exact ⟨x, y, by rw [upd_ne n.symm]; exact e1⟩
theorem But.tape {a : Addr} {H H2 : Hp} (h : But a H H2) (t : TP H a) : TupsStay H H2 := by
  obtain ⟨x, y, e⟩ := t
  exact h.tups e
theorem But.refl (a : Addr) (H : Hp) : But a H H := fun _ _ _ e => e
theorem atI_in {α : Type} {l : List α} {i : Int} (h0 : 0 ≤ i) (h1 : i < l.length) : ∃ v, atI l i = some v ∧ v ∈ l := by
  obtain ⟨k, rfl⟩ := Int.eq_ofNat_of_zero_le h0
  have hk : k < l.length := by omega
  exact ⟨l[k], atI_nat (List.getElem?_eq_getElem hk), List.getElem_mem hk⟩
/-! ### texts in written tuples -/
theorem inS (x : Str) : ∀ l : List Str, inV (.str x) (l.map V.str) = decide (x ∈ l)
  | [] => rfl
  | y :: l => by
    have ih := inS x l
    show (eqV (.str y) (.str x) || inV (.str x) (l.map V.str)) = _
    rw [ih]
    by_cases h : x = y
    · subst h
      simp [eqV]
    · have h2 : ¬ y = x := fun e => h e.symm
      simp [eqV, h, h2]
def tw12 : List Str := ["add", "sub", "and", "xor", "or", "not", "twice", "neg", "all", "one", "none", "add"]
def twC : List Str := ["add", "sub", "twice", "neg", "one"]
theorem tw_zero : ∀ x ∈ (["all", "one", "none"] : List Str), (x, (0 : Int)) ∈ fwL := by decide +kernel
theorem tw_one : ∀ x ∈ (["not", "twice", "neg"] : List Str), (x, (1 : Int)) ∈ fwL := by decide +kernel
theorem tw_two : ∀ x ∈ tw12, x ∈ (["all", "one", "none"] : List Str) ∨ x ∈ (["not", "twice", "neg"] : List Str) ∨ (x, (2 : Int)) ∈ fwL := by decide +kernel
theorem tw_four : ∀ x ∈ (["and", "or", "xor", "not"] : List Str), x ∈ tw12 := by decide +kernel
theorem mem_strs {v : V} {l : List Str} (h : v ∈ l.map V.str) : ∃ x, x ∈ l ∧ v = .str x := by
  obtain ⟨x, hx, e⟩ := List.mem_map.mp h
  exact ⟨x, hx, e.symm⟩
/-! ### bits and carries of rows -/
def fcD (d : Deed) : Int := if d.1 ∈ (["neg", "one"] : List Str) then 1 else 0
def dbit (x : Str) (a b c : Int) : Int :=
  if x = "none" then 0 else if x = "all" then 1 else if x = "one" then c else if x = "twice" then c else if x = "not" then 1 - a else if x = "neg" then Builtin.bitXor (1 - a) c
  else if x = "and" then Builtin.bitAnd a b else if x = "or" then Builtin.bitOr a b else if x = "xor" then Builtin.bitXor a b else Builtin.bitXor (Builtin.bitXor a b) c
def dcar (x : Str) (a b c : Int) : Int :=
  if x = "neg" then Builtin.bitAnd (1 - a) c else if x = "twice" then a else if x = "add" then (a + b + c) / 2 else if x = "sub" then (1 - a + b + c) / 2 else 0
def dbitAt (d : Deed) (c : Int) (told : List Int) : Int := dbit d.1 (argAt d told 0) (argAt d told 1) c
def dcarAt (d : Deed) (c : Int) (told : List Int) : Int := dcar d.1 (argAt d told 0) (argAt d told 1) c
def bts : List Deed → List Int → List Int → List Int
  | d :: ds, c :: cs, told => bts ds cs (told ++ [dbitAt d c told])
  | _, _, told => told
def nxt (ds : List Deed) (cs told : List Int) : List Int := List.zipWith (fun d c => dcarAt d c told) ds cs
abbrev Bit (x : Int) : Prop := x = 0 ∨ x = 1
theorem bit0 : Bit 0 := .inl rfl
theorem bit1 : Bit 1 := .inr rfl
theorem dbit_bit {x : Str} {a b c : Int} (ha : Bit a) (hb : Bit b) (hc : Bit c) : Bit (dbit x a b c) := by
  have n1 : Bit (1 - a) := by rcases ha with rfl | rfl <;> simp [Bit]
  have hx : ∀ {p q : Int}, Bit p → Bit q → Bit (Builtin.bitXor p q) := fun hp hq => by
    rcases hp with rfl | rfl <;> rcases hq with rfl | rfl <;> decide
  have hand : ∀ {p q : Int}, Bit p → Bit q → Bit (Builtin.bitAnd p q) := fun hp hq => by
    rcases hp with rfl | rfl <;> rcases hq with rfl | rfl <;> decide
  have hor : ∀ {p q : Int}, Bit p → Bit q → Bit (Builtin.bitOr p q) := fun hp hq => by
    rcases hp with rfl | rfl <;> rcases hq with rfl | rfl <;> decide
  unfold dbit
  split; · exact bit0
  split; · exact bit1
  split; · exact hc
  split; · exact hc
  split; · exact n1
  split; · exact hx n1 hc
  split; · exact hand ha hb
  split; · exact hor ha hb
  split; · exact hx ha hb
  exact hx (hx ha hb) hc
theorem dcar_bit {x : Str} {a b c : Int} (ha : Bit a) (hb : Bit b) (hc : Bit c) : Bit (dcar x a b c) := by
  unfold dcar
  split
  · rcases ha with rfl | rfl <;> rcases hc with rfl | rfl <;> decide
  split; · exact ha
  split
  · rcases ha with rfl | rfl <;> rcases hb with rfl | rfl <;> rcases hc with rfl | rfl <;> decide
  split
  · rcases ha with rfl | rfl <;> rcases hb with rfl | rfl <;> rcases hc with rfl | rfl <;> decide
  exact bit0
theorem argAt_bit {told : List Int} (h : ∀ x ∈ told, Bit x) (d : Deed) (j : Nat) : Bit (argAt d told j) := by
  unfold argAt
  rw [List.getD_eq_getElem?_getD]
  cases e : told[(d.2.getD j 0).toNat]? with
  | none => exact bit0
  | some y => exact h y (List.mem_of_getElem? e)
theorem bts_next : ∀ {ds : List Deed} {cs t : List Int} {i : Nat} {d : Deed} {c : Int}, ds[i]? = some d → cs[i]? = some c → bts (ds.take (i + 1)) (cs.take (i + 1)) t = bts (ds.take i) (cs.take i) t ++ [dbitAt d c (bts (ds.take i) (cs.take i) t)]
  | [], _, _, _, _, _, h, _ => by simp at h
  | _ :: _, [], _, _, _, _, _, h => by simp at h
  | e :: ds, g :: cs, t, 0, d, c, h, k => by
    simp only [List.getElem?_cons_zero, Option.some.injEq] at h k
    subst h k
    rfl
  | e :: ds, g :: cs, t, i + 1, d, c, h, k => by
    simp only [List.getElem?_cons_succ] at h k
    exact bts_next (t := t ++ [dbitAt e g t]) h k
theorem bts_len : ∀ {ds : List Deed} {cs t : List Int}, ds.length = cs.length → (bts ds cs t).length = t.length + ds.length
  | [], [], _, _ => rfl
  | [], _ :: _, _, h => by simp at h
  | _ :: _, [], _, h => by simp at h
  | d :: ds, c :: cs, t, h => by
    show (bts ds cs (t ++ [dbitAt d c t])).length = _
    rw [bts_len (by simpa using h), List.length_append, List.length_cons, List.length_cons, List.length_nil]
    omega
theorem bts_bits : ∀ {ds : List Deed} {cs t : List Int}, (∀ x ∈ t, Bit x) → (∀ x ∈ cs, Bit x) → ∀ x ∈ bts ds cs t, Bit x
  | [], cs, t, h, _ => by
    unfold bts
    exact h
  | _ :: _, [], t, h, _ => by
    unfold bts
    exact h
  | d :: ds, c :: cs, t, h, k => by
    refine bts_bits (ds := ds) (cs := cs) (t := t ++ [dbitAt d c t]) (fun x hx => ?_) fun x hx => k x (List.mem_cons_of_mem _ hx)
    rcases List.mem_append.mp hx with hx | hx
    · exact h x hx
    · rw [List.mem_singleton.mp hx]
      exact dbit_bit (argAt_bit h d 0) (argAt_bit h d 1) (k c List.mem_cons_self)
theorem nxt_len {ds : List Deed} {cs t : List Int} (h : ds.length = cs.length) : (nxt ds cs t).length = ds.length := by
  unfold nxt
  rw [List.length_zipWith]
  omega
theorem nxt_bits {ds : List Deed} {cs t : List Int} (h : ∀ x ∈ t, Bit x) (k : ∀ x ∈ cs, Bit x) : ∀ x ∈ nxt ds cs t, Bit x := by
  intro x hx
  unfold nxt at hx
  obtain ⟨i, hi⟩ := List.mem_iff_getElem?.mp hx
  rw [List.getElem?_zipWith] at hi
  cases e1 : ds[i]? with
  | none => rw [e1] at hi; simp at hi
  | some d =>
    cases e2 : cs[i]? with
    | none => rw [e1, e2] at hi; simp at hi
    | some c =>
      rw [e1, e2] at hi
      have := Option.some.inj hi
      rw [← this]
      exact dcar_bit (argAt_bit h d 0) (argAt_bit h d 1) (k c (List.mem_of_getElem? e2))
theorem nxt_next {ds : List Deed} {cs t : List Int} {i : Nat} {d : Deed} {c : Int} (h : ds[i]? = some d) (k : cs[i]? = some c) : (nxt ds cs t).take (i + 1) = (nxt ds cs t).take i ++ [dcarAt d c t] := by
  rw [List.take_add_one]
  unfold nxt
  rw [List.getElem?_zipWith, h, k]
  rfl
section
variable {K : PySem.W.Frag} {a b : Addr} {xs ys : List V}
theorem walk_zipT (hn : xs.length = ys.length) : Walk (RZ.ItzT K a b) xs.length (fun H => SqT K H a xs ∧ SqT K H b ys) (YPair (fun i => xs[i]?) (fun i => ys[i]?)) where
  goes := fun i H hi q => ⟨xs, ys, xs[i], ys[i]'(by omega), q.1, q.2, List.getElem?_eq_getElem hi, List.getElem?_eq_getElem (by omega)⟩
  stops := fun H q => ⟨xs, ys, q.1, q.2, .inl (Nat.le_refl _)⟩
  yields := fun i H v H2 hi q y => by
    obtain ⟨T, x, z, h1, h2, h3, h4, h5⟩ := y
    exact ⟨T, x, z, h1, h2, h3, h4 xs q.1, h5 ys q.2⟩
end
/-! ### own exceptions as values -/
section
variable {X : Cx} {K : PySem.W.Frag}
theorem kit_ref {D C : Addr} {b : Bool} (h1 : PySem.W.isClsIn K C = true) (h2 : PySem.W.typeIn K (.ref C) = some (.type "type")) (h3 : PySem.W.subIn K (.ref D) (.ref C) = some b) (h4 : PySem.W.subIn K (.ref C) (.ref C) = some true) : PySem.W.kitOne K (.ref D) (.ref C) = some b := by
  unfold PySem.W.kitOne
  by_cases e : D = C
  · subst e
    rw [h3] at h4
    rw [if_pos (by simp), h4]
  · rw [if_neg (by simpa using e)]
    have e1 : ((PySem.W.clsIn K C).isSome && PySem.W.typeIn K (.ref C) == some (.type "type")) = true := by
      have h1' : (PySem.W.clsIn K C).isSome = true := h1
      rw [h1', h2]
      rfl
    show (if ((PySem.W.clsIn K C).isSome && PySem.W.typeIn K (.ref C) == some (.type "type")) = true then PySem.W.subIn K (.ref D) (.ref C) else none) = some b
    rw [if_pos e1]
    exact h3
theorem kit_ve {D : Addr} {b : Bool} (h : PySem.W.subIn K (.ref D) (.type "ValueError") = some b) : PySem.W.kitOne K (.ref D) (.type "ValueError") = some b := by
  have e1 : PySem.W.kitMeta "ValueError" = true := by decide +kernel
  show (if PySem.W.kitMeta "ValueError" = true then PySem.W.subIn K (.ref D) (.type "ValueError") else none) = some b
  rw [if_pos e1]
  exact h
def rIsX (K : PySem.W.Frag) : List V → Hp → VK → Prop := fun xs H Q => ∃ (a D : Addr) (c : V) (cv : Value) (b : Bool), xs = [.ref a, c] ∧ H a = some (ExO (.ref D) a) ∧ ExcC K D ∧ ClsV c cv ∧ PySem.W.kitOne K (.ref D) cv = some b ∧ Q (.bl b) H
theorem call_isX : CallR X (.builtin "isinstance") (rIsX X.K) := by
  intro pins s σ H xs us Q I r h
  obtain ⟨a, D, c, cv, b, rfl, ha, hD, hc, hk, q⟩ := h
  match us, r with
  | [u1, u2], .cons r1 (.cons r2 .nil) =>
    obtain rfl : u1 = Value.ref a := r1
    obtain rfl := ClsV.eq hc r2
    obtain ⟨⟨oe, vs, hget, ⟨z1, z2⟩, hv, _⟩, _, _⟩ := I.hok a _ ha
    have J : PySem.W.InstAt s.heap a oe D none := by
      obtain ⟨oc, od, oda, osl⟩ := oe
      dsimp only at z1 z2 hv
      subst z1 z2 hv
      exact ⟨hget, rfl, rfl, trivial⟩
    exact PySem.W.kia_one (PySem.W.handS_kitx_exc hD.hg hD.hk hD.hs hD.hd hD.ha hD.hn hD.ht hD.hm) I.kIn J hk (fun z => nomatch z) fun tk => ⟨.bl b, H, I.kept (t' := tk) fun _ _ z => z, rfl, q⟩
end
theorem dp_bls {K : PySem.W.Frag} {H : Hp} : ∀ cs : List Bool, DpAll K H (cs.map V.bl) (cs.map PyData.bool)
  | [] => .nil
  | c :: cs => .cons (.bl c) (dp_bls cs)
theorem lay_bls : ∀ cs : List Bool, PyData.canLayAll0 (cs.map PyData.bool) = true ∧ PyData.depthAll (cs.map PyData.bool) = 0
  | [] => ⟨by simp only [List.map_nil, PyData.canLayAll0], by simp only [List.map_nil, PyData.depthAll]⟩
  | c :: cs => by
    obtain ⟨h1, h2⟩ := lay_bls cs
    exact ⟨by simp only [List.map_cons, PyData.canLayAll0, PyData.canLay0, h1, Bool.and_self], by simp only [List.map_cons, PyData.depthAll, PyData.depth, h2, Nat.max_self]⟩
theorem shaped_bls (cs : List Bool) : SeqAt.shaped (.list (cs.map PyData.bool)) = true := by
  obtain ⟨h1, h2⟩ := lay_bls cs
  simp only [SeqAt.shaped, PyData.canLay0, PyData.depth, h1, h2, Bool.true_and]
  decide
theorem eqv_bls (l : List Bool) : PyData.eqv (.list (l.map PyData.bool)) (.list (l.map PyData.bool)) = true := SeqAt.eqv_refl _ (SeqAt.canLay_of_shaped (shaped_bls l))
/-- a test that is never asked -/
def tNevT : TT := fun _ _ _ => False
theorem pt_never {X : Cx} {e : Expr} : PT X e tNevT := ⟨fun _ _ _ _ _ _ h => h.elim⟩
end AW
namespace KK
open PySem PySem.Spec PyProof.Rows L2 AW
def topS (i : Nat) : Stmt := PySem.Challenge.pw_anywide_k07_longest_rows_of_sums.main.body.getD i (.Pass ⟨0, 0, 0, 0⟩)
abbrev s_deed_value : Stmt := topS 1
abbrev N_deed_value : List Str := ["deed", "told", "size", "word", "first", "second"]
theorem sc_deed_value : FnScope N_deed_value ["deed", "told", "size"] (defScope s_deed_value) := ⟨rfl, rfl, rfl, by decide +kernel, rfl, by decide +kernel, by decide +kernel⟩
abbrev s_values : Stmt := topS 2
abbrev N_values : List Str := ["row", "width", "words", "size", "told", "deed"]
theorem sc_values : FnScope N_values ["row", "width", "words"] (defScope s_values) := ⟨rfl, rfl, rfl, by decide +kernel, rfl, by decide +kernel, by decide +kernel⟩
abbrev s_worth : Stmt := topS 3
abbrev N_worth : List Str := ["row", "width", "words"]
theorem sc_worth : FnScope N_worth ["row", "width", "words"] (defScope s_worth) := ⟨rfl, rfl, rfl, by decide +kernel, rfl, by decide +kernel, by decide +kernel⟩
abbrev s_law_well : Stmt := topS 5
abbrev N_law_well : List Str := ["script", "seed", "cell"]
theorem sc_law_well : FnScope N_law_well ["script"] (defScope s_law_well) := ⟨rfl, rfl, rfl, by decide +kernel, rfl, by decide +kernel, by decide +kernel⟩
abbrev s_law_draw : Stmt := topS 6
abbrev N_law_draw : List Str := ["well", "many", "cell", "found"]
theorem sc_law_draw : FnScope N_law_draw ["well", "many"] (defScope s_law_draw) := ⟨rfl, rfl, rfl, by decide +kernel, rfl, by decide +kernel, by decide +kernel⟩
abbrev s_law_top : Stmt := topS 7
abbrev N_law_top : List Str := ["width", "top", "k"]
theorem sc_law_top : FnScope N_law_top ["width"] (defScope s_law_top) := ⟨rfl, rfl, rfl, by decide +kernel, rfl, by decide +kernel, by decide +kernel⟩
abbrev s_law_words : Stmt := topS 8
abbrev N_law_words : List Str := ["well", "many", "top", "found", "k", "way"]
theorem sc_law_words : FnScope N_law_words ["well", "many", "top"] (defScope s_law_words) := ⟨rfl, rfl, rfl, by decide +kernel, rfl, by decide +kernel, by decide +kernel⟩
abbrev s_law_sums : Stmt := topS 9
abbrev N_law_sums : List Str := ["many", "deeds", "found", "k", "zero", "deed", "handed", "a", "b", "j", "number", "one", "other"]
theorem sc_law_sums : FnScope N_law_sums ["many", "deeds"] (defScope s_law_sums) := ⟨rfl, rfl, rfl, by decide +kernel, rfl, by decide +kernel, by decide +kernel⟩
abbrev s_law_chain : Stmt := topS 10
abbrev N_law_chain : List Str := ["well", "many", "upon", "names", "deeds", "k", "word", "ahead", "numbers", "size"]
theorem sc_law_chain : FnScope N_law_chain ["well", "many"] (defScope s_law_chain) := ⟨rfl, rfl, rfl, by decide +kernel, rfl, by decide +kernel, by decide +kernel⟩
abbrev s_law : Stmt := topS 11
abbrev N_law : List Str := ["script", "well", "turn", "many", "deeds", "row", "width", "top", "words", "due", "sums", "one", "word"]
theorem sc_law : FnScope N_law ["script"] (defScope s_law) := ⟨rfl, rfl, rfl, by decide +kernel, rfl, by decide +kernel, by decide +kernel⟩
section
variable {P : Program} {w : World} {K : PySem.W.Frag} {mg : Str → Option Value} {base : Heap}
def spWell (K : PySem.W.Frag) : Sp := fun vs H Q _ => ∃ (a : Addr) (ns : List Int), vs = [.ref a] ∧ SqL K H a (ns.map V.int) ∧ ns.length ≤ 63 ∧ (∀ z ∈ ns, Builtin.Int.intBits z ≤ 1048576) ∧
  ∀ H' p c, Same H H' → H p = none → H c = none → WL H' p c → Q (.ref p) H'
theorem ok_well {f : Addr} {fd : FuncData} {k : Nat} (F : Fun K "_law_well" "_law_well" s_law_well f fd) (ma : mg "abs" = none) : FnOk P w K mg base CX0 (k + 1) f fd ["script"] (spWell K) := by
  refine F.ok sc_law_well (fun vs H Q E h => ?_) (fun cdv A outer s H vs Q E hr h => ?_)
  · obtain ⟨a, ns, rfl, _⟩ := h
    rfl
  · obtain ⟨a, ns, rfl, hS, hlen, hbits, q⟩ := h
    refine ⟨_, pss_cons (ps_set (i := 1) sc_law_well.nd rfl (.inl rfl) pe_int)
      (pss_cons (ps_for PassesOwn.never rfl (pi_list (pv 0)) (pg_name (i := 2) sc_law_well.nd rfl (.inl rfl))
        (pss_one (ps_set (i := 1) sc_law_well.nd rfl (.inl rfl) (pe_op op_add (pe_op op_mod (pe_op op_powW (pe_op op_add (pe_op op_mul (pv 1) pe_int) (pv 2)) pe_int) pe_int) pe_int))))
      (pss_one (ps_ret (pe_lst (pa_cons (pe_lc (own := [("cell", 2)]) (g := gName 2) (by rfl) sc_law_well.nd (pi_list (pv 0)) (blkOk_by (own := [("cell", 2)]) (N := ["script", "seed", "cell"]) (sc := defScope s_law_well) (by decide +kernel))
          (fun _ _ _ _ _ => pg_name (i := 2) sc_law_well.nd rfl (Or.inl rfl)) (fun _ _ _ _ _ => pts_nil)
          (fun _ _ _ _ _ => pe_callB call_abs (by rfl) ma (by decide +kernel) (pa_cons (pv 2) pa_nil))) (pa_cons pe_int (pa_cons (pv 1) pa_nil))))))), ?_⟩
    refine ⟨.ref a, rfl, a, rfl, ⟨_, hS⟩, for_list (K := K) (a := a) (xs := ns.map V.int) (fun i σ H3 => ∃ z y, σ = [some (.ref a), some (.int z), y] ∧ 0 ≤ z ∧ z ≤ 2147483629 ∧ H3 = H) ⟨1, none, rfl, by decide, by decide, rfl⟩ (fun i σ H3 _ hp => ?_) (fun i x σ H3 hx hp => ?_) (fun σ H3 hp => ?_)⟩
    · obtain ⟨z, y, _, _, _, rfl⟩ := hp
      exact hS
    · obtain ⟨z, y, rfl, h0, h1, rfl⟩ := hp
      obtain ⟨c, hc, rfl⟩ : ∃ c, c ∈ ns ∧ x = .int c := by
        rw [List.getElem?_map] at hx
        cases e : ns[i]? with
        | none => rw [e] at hx; cases hx
        | some c => rw [e] at hx; exact ⟨c, List.mem_of_getElem? e, (Option.some.inj hx).symm⟩
      refine ⟨.int z, rfl, z, 50021, rfl, rfl, .inr ⟨by decide, by decide⟩, .int c, rfl, _, _, rfl, rfl, _, 3, rfl, rfl, seed_ok h0 h1 (hbits c hc), _, 2147483629, rfl, rfl, (by show (0 : Int) < 2147483629; decide), _, 1, rfl, rfl, ?_⟩
      refine ⟨_, some (.int c), rfl, ?_, ?_, rfl⟩
      · have := Int.emod_nonneg ((z * 50021 + c) ^ (3 : Int).toNat) (show (2147483629 : Int) ≠ 0 by decide)
        omega
      · have := Int.emod_lt_of_pos ((z * 50021 + c) ^ (3 : Int).toNat) (show (0 : Int) < 2147483629 by decide)
        omega
    · obtain ⟨z, y, rfl, h0, h1, rfl⟩ := hp
      refine ⟨.ref a, rfl, a, rfl, ⟨_, hS⟩, fun D hD => ?_⟩
      have sD : ∀ o, Same H3 (upd H3 D o) := fun o => same_new hD
      refine lc_list (K := K) (a := a) (xs := ns.map V.int) (fun i H4 => ∃ cs : List Int, cs.length = i ∧ H4 = upd H3 D (.lst (cs.map V.int))) ⟨[], rfl, rfl⟩ (fun i H4 _ hp => ?_) (fun i x H4 hx hp => ?_) (fun H4 hp => ?_)
      · obtain ⟨cs, _, rfl⟩ := hp
        exact (sD _).seq hS
      · obtain ⟨cs, hl, rfl⟩ := hp
        obtain ⟨c, hc, rfl⟩ : ∃ c, c ∈ ns ∧ x = .int c := by
          rw [List.getElem?_map] at hx
          cases e : ns[i]? with
          | none => rw [e] at hx; cases hx
          | some c => rw [e] at hx; exact ⟨c, List.mem_of_getElem? e, (Option.some.inj hx).symm⟩
        have hi : i < ns.length := by
          have := (List.getElem?_eq_some_iff.mp hx).1
          rwa [List.length_map] at this
        refine ⟨rfl, .int c, rfl, c, rfl, _, upd_same, ?_, cs ++ [if c < 0 then -c else c], ?_, ?_⟩
        · rw [List.length_map, hl]
          exact small1000 (by omega)
        · rw [List.length_append, hl]
          rfl
        · rw [upd_upd, List.map_append]
          rfl
      · obtain ⟨cs, hl, rfl⟩ := hp
        refine ⟨.int z, rfl, by show 3 ≤ sizeLine; decide, fun p hp => ?_⟩
        have np : p ≠ D := fun e => by
          rw [e, upd_same] at hp
          cases hp
        have hp2 : H3 p = none := by
          rw [upd_ne np] at hp
          exact hp
        refine q _ p D ((sD _).trans (same_new hp)) hp2 hD ⟨np, cs, 0, z, upd_same, ?_⟩
        rw [upd_ne np.symm, upd_same]
def spDraw : Sp := fun vs H Q _ => ∃ (a c : Addr) (m : Int), vs = [.ref a, .int m] ∧ 0 < m ∧ m ≤ 2 ^ 80 ∧ WL H a c ∧ ∀ H' z, 0 ≤ z → z < m → WL H' a c → Kp a c H H' → Q (.int z) H'
theorem ok_draw {f : Addr} {fd : FuncData} {k : Nat} (F : Fun K "_law_draw" "_law_draw" s_law_draw f fd) : FnOk P w K mg base CX0 (k + 1) f fd ["well", "many"] spDraw := by
  refine F.ok sc_law_draw (fun vs H Q E h => ?_) (fun cdv A outer s H vs Q E hr h => ?_)
  · obtain ⟨a, c, m, rfl, _⟩ := h
    rfl
  · obtain ⟨a, c, m, rfl, hm, hm2, hw, q⟩ := h
    refine ⟨_, pss_mid (ps_if (PW.pt (pw_and (pt_cmpR op_eq (pe_ix ix_list (pv 0) pe_int (fun _ _ => rfl)) pe_int (nomark _))
          (pw_and1 (pt_cmpR (op_neD hr.units) (pe_ix ix_list (pv 0) pe_int (fun _ _ => rfl)) (pe_lst pa_nil) (nomark _)))))
        (pss_cons (ps_set (i := 2) sc_law_draw.nd rfl (.inl rfl) (pe_bm PySem.F.plainAttrs_list PySem.F.slot_list_pop PySem.F.type_list_pop mt_popAt (pe_ix ix_list (pv 0) pe_int (fun _ _ => rfl)) (pa_cons pe_int pa_nil)))
        (pss_cons (ps_if (pt_cmpR op_lt (pv 2) (pe_op op_pow pe_int pe_int) (nomark _)) (pss_one (ps_ret (pe_op op_mod (pv 2) (pv 1)))) pss_nil)
        (pss_one (ps_asg (pv 2) (pg_sub (pv 0) pe_int set_list))))) pss_nil)
      (pss_cons (ps_if (pt_cmpR op_gt (pe_ix ix_list (pv 0) pe_int (fun _ _ => rfl)) pe_int (nomark _))
        (pss_cons (ps_set (i := 3) sc_law_draw.nd rfl (.inl rfl) (pe_op op_mod (pe_ix ix_list (pv 0) pe_int (fun _ _ => rfl)) (pv 1)))
        (pss_cons (ps_asg (pe_op op_fdivW (pe_ix ix_list (pv 0) pe_int (fun _ _ => rfl)) (pv 1)) (pg_sub (pv 0) pe_int set_list))
        (pss_one (ps_ret (pv 3))))) pss_nil)
      (pss_cons (ps_asg (pe_op op_mod (pe_op op_add (pe_op op_mul (pe_ix ix_list (pv 0) pe_int (fun _ _ => rfl)) pe_int) pe_int) pe_int) (pg_sub (pv 0) pe_int set_list))
      (pss_one (ps_ret (pe_op op_mod (pe_op op_fdiv (pe_op op_mod (pe_op op_pow (pe_op op_mod (pe_op op_pow (pe_ix ix_list (pv 0) pe_int (fun _ _ => rfl)) pe_int) pe_int) pe_int) pe_int) pe_int) (pv 1)))))), ?_⟩
    refine ⟨fun σ2 H2 => ∃ y, σ2 = [some (.ref a), some (.int m), y, none] ∧ WL H2 a c ∧ Kp a c H H2, ?_, ?_⟩
    · obtain ⟨nac, cs, r, sd, ea, ec⟩ := id hw
      have lA : SqL K H a [.ref c, .int r, .int sd] := .inl (.inl ea)
      refine ⟨.ref a, rfl, a, _, 1, .int r, rfl, rfl, lA, rfl, rfl, _, rfl, ite2 (fun e => ?_) (fun e => ?_)⟩
      · refine ⟨.ref a, rfl, a, _, 0, .ref c, rfl, rfl, lA, rfl, Nat.zero_le _, fun p hp => ?_⟩
        have sp : Same H (upd H p (.lst [])) := same_new hp
        refine ⟨.list (cs.map PyData.int), .list [], .lst (sp.seq (.inl (.inl ec))) (dp_ints cs), .lst (.inl (.inl upd_same)) .nil, shaped_ints cs, by decide +kernel, _, rfl, ?_⟩
        have ec2 : upd H p (.lst []) c = some (.lst (cs.map V.int)) := sp _ _ ec
        have ea2 : upd H p (.lst []) a = some (.lst [.ref c, .int r, .int sd]) := sp _ _ ea
        have lA2 : SqL K (upd H p (.lst [])) a [.ref c, .int r, .int sd] := .inl (.inl ea2)
        cases cs with
        | nil =>
          rw [show PyData.eqv (.list (([] : List Int).map PyData.int)) (.list []) = true by decide +kernel]
          exact ⟨_, rfl, hw.same sp, Same.kp sp⟩
        | cons x cs =>
          rw [show PyData.eqv (.list ((x :: cs).map PyData.int)) (.list []) = false by simp only [List.map_cons, PyData.eqv, PyData.eqvAll]]
          refine ⟨.ref a, rfl, a, _, 0, .ref c, rfl, rfl, lA2, rfl, .inl ⟨rfl, _, .inl (.inl ec2)⟩, c, _, 0, 0, .int x, rfl, rfl, ec2, by decide, by decide, ?_, rfl, ?_⟩
          · rw [List.length_map, List.length_cons]
            exact seq0 _
          have w3 : WL (upd (upd H p (.lst [])) c (.lst (List.eraseIdx ((x :: cs).map V.int) 0))) a c := ⟨nac, cs, r, sd, by rw [upd_ne nac]; exact ea2, upd_same⟩
          have k3 : Kp a c H (upd (upd H p (.lst [])) c (.lst (List.eraseIdx ((x :: cs).map V.int) 0))) := fun b o n1 n2 eb => by
            rw [upd_ne n2]
            exact sp _ _ eb
          refine ⟨.int x, rfl, 10, 18, rfl, rfl, ⟨by decide, by decide, by decide⟩, x, _, rfl, rfl, _, rfl, ite2 (fun e => ?_) (fun e => ?_)⟩
          · exact ⟨.int x, rfl, .int m, rfl, x, m, rfl, rfl, hm, q _ _ (Int.emod_nonneg _ (by omega)) (Int.emod_lt_of_pos _ hm) w3 k3⟩
          · refine ⟨.int x, rfl, .ref a, rfl, a, _, 1, 1, rfl, rfl, by rw [upd_ne nac]; exact ea2, rfl, some (.int x), rfl, ?_, ?_⟩
            · exact ⟨nac, cs, x, sd, upd_same, by rw [upd_ne nac.symm]; exact upd_same⟩
            · intro b o n1 n2 eb
              rw [upd_ne n1]
              exact k3 b o n1 n2 eb
      · exact ⟨_, rfl, hw, Kp.refl a c H⟩
    · rintro σ2 H2 ⟨y, rfl, hw2, kp⟩
      obtain ⟨nac, cs, r, sd, ea, ec⟩ := id hw2
      have lA : SqL K H2 a [.ref c, .int r, .int sd] := .inl (.inl ea)
      refine ⟨.ref a, rfl, a, _, 1, .int r, rfl, rfl, lA, rfl, r, 0, rfl, rfl, _, rfl, ite2 (fun e => ?_) (fun e => ?_)⟩
      · refine ⟨.ref a, rfl, a, _, 1, .int r, rfl, rfl, lA, rfl, .int m, rfl, r, m, rfl, rfl, hm, ?_⟩
        refine ⟨.ref a, rfl, a, _, 1, .int r, rfl, rfl, lA, rfl, .int m, rfl, r, m, rfl, rfl, wide_div (b := 81) hm (by omega) (by decide) (by decide), ?_⟩
        refine ⟨.ref a, rfl, a, _, 1, 1, rfl, rfl, ea, rfl, .int (r % m), rfl, ?_⟩
        refine q _ _ (Int.emod_nonneg _ (by omega)) (Int.emod_lt_of_pos _ hm) ⟨nac, cs, r / m, sd, upd_same, ?_⟩ ?_
        · rw [upd_ne nac.symm]
          exact ec
        · intro b o n1 n2 eb
          rw [upd_ne n1]
          exact kp b o n1 n2 eb
      · refine ⟨.ref a, rfl, a, _, 2, .int sd, rfl, rfl, lA, rfl, sd, 48271, rfl, rfl, .inr ⟨by decide, by decide⟩, _, 12345, rfl, rfl, _, 2147483647, rfl, rfl, (by show (0 : Int) < 2147483647; decide), ?_⟩
        have l0 := Int.emod_nonneg (sd * 48271 + 12345) (show (2147483647 : Int) ≠ 0 by decide)
        have l1 := Int.emod_lt_of_pos (sd * 48271 + 12345) (show (0 : Int) < 2147483647 by decide)
        obtain ⟨z, hz⟩ : ∃ z : Int, (sd * 48271 + 12345) % 2147483647 = z := ⟨_, rfl⟩
        rw [hz] at l0 l1
        refine ⟨.ref a, rfl, a, _, 2, 2, rfl, rfl, ea, rfl, ?_⟩
        have l2 := Int.emod_nonneg (z ^ (3 : Int).toNat) (show (2147483629 : Int) ≠ 0 by decide)
        have l3 := Int.emod_lt_of_pos (z ^ (3 : Int).toNat) (show (0 : Int) < 2147483629 by decide)
        refine ⟨.ref a, rfl, a, _, 2, .int z, rfl, rfl, .inl (.inl upd_same), (by rw [← hz]; rfl), z, 3, rfl, rfl, ⟨by decide, by decide, by omega⟩, _, 2147483629, rfl, rfl, (by show (0 : Int) < 2147483629; decide), ?_⟩
        obtain ⟨x, hx⟩ : ∃ x : Int, z ^ (3 : Int).toNat % 2147483629 = x := ⟨_, rfl⟩
        rw [hx] at l2 l3
        refine ⟨x, 5, congrArg V.int hx, rfl, ⟨by decide, by decide, by omega⟩, _, 1000000007, rfl, rfl, (by show (0 : Int) < 1000000007; decide), _, 7, rfl, rfl, ⟨by decide, by decide⟩, .int m, rfl, _, m, rfl, rfl, hm, ?_⟩
        refine q _ _ (Int.emod_nonneg _ (by omega)) (Int.emod_lt_of_pos _ hm) ⟨nac, cs, r, z, (by rw [← hz]; exact upd_same), ?_⟩ ?_
        · rw [upd_ne nac.symm]
          exact ec
        · intro b o n1 n2 eb
          rw [upd_ne n1]
          exact kp b o n1 n2 eb
/-! ### top -/
def spTop : Sp := fun vs H Q _ => ∃ n : Nat, vs = [.int (n : Int)] ∧ n ≤ 1000 ∧ Q (.int (2 ^ n)) H
theorem ok_top {f : Addr} {fd : FuncData} {k : Nat} (F : Fun K "_law_top" "_law_top" s_law_top f fd) (mr : mg "range" = none) : FnOk P w K mg base CX0 (k + 1) f fd ["width"] spTop := by
  refine F.ok sc_law_top (fun vs H Q E h => ?_) (fun cdv A outer s H vs Q E hr h => ?_)
  · obtain ⟨n, rfl, _⟩ := h
    rfl
  · obtain ⟨n, rfl, hn, q⟩ := h
    refine ⟨_, pss_cons (ps_set (i := 1) sc_law_top.nd rfl (.inl rfl) pe_int)
      (pss_cons (ps_for PassesOwn.never rfl (pi_range1 (by rfl) mr (pa_cons (pv 0) pa_nil)) (pg_name (i := 2) sc_law_top.nd rfl (.inl rfl)) (pss_one (ps_set (i := 1) sc_law_top.nd rfl (.inl rfl) (pe_op op_mul pe_int (pv 1)))))
      (pss_one (ps_ret (pv 1)))), ?_⟩
    refine ⟨.int n, rfl, n, rfl, by omega, by omega, for_range (lo := 0) (n := n) (fun i σ H3 => ∃ y, σ = [some (.int (n : Int)), some (.int (2 ^ i)), y] ∧ H3 = H) ⟨none, rfl, rfl⟩ (fun i σ H3 hi hp => ?_) (fun σ H3 hp => ?_)⟩
    · obtain ⟨y, rfl, rfl⟩ := hp
      refine ⟨.int (2 ^ i), rfl, 2, 2 ^ i, rfl, rfl, .inl ⟨by decide, by decide⟩, some (.int (0 + i)), ?_, rfl⟩
      have e : (2 : Int) * 2 ^ i = 2 ^ (i + 1) := by rw [Int.pow_succ, Int.mul_comm]
      show _ = [some (V.int (n : Int)), some (V.int (2 ^ (i + 1))), some (V.int (0 + i))]
      rw [← e]
      rfl
    · obtain ⟨y, rfl, rfl⟩ := hp
      exact ⟨_, rfl, q⟩
/-! ### words -/
def spWords : Sp := fun vs H Q _ => ∃ (a c : Addr) (m t : Int), vs = [.ref a, .int m, .int t] ∧ 0 ≤ m ∧ m ≤ 3 ∧ 2 ≤ t ∧ t ≤ 2 ^ 80 ∧ WL H a c ∧
  ∀ H' p (xs : List Int), H' p = some (.lst (xs.map V.int)) → (xs.length : Int) = m → (∀ x ∈ xs, 0 ≤ x ∧ x < t) → p ≠ a → p ≠ c → WL H' a c → Kp a c H H' → Q (.ref p) H'
theorem word_pick {t y : Int} (ht : 2 ≤ t) (h0 : 0 ≤ y) (h1 : y < 4) : ∃ x, atI [V.int 0, .int (t - 1), .int 1, .int (t / 2)] y = some (.int x) ∧ 0 ≤ x ∧ x < t := by
  obtain ⟨k, rfl⟩ := Int.eq_ofNat_of_zero_le h0
  have hk : k = 0 ∨ k = 1 ∨ k = 2 ∨ k = 3 := by omega
  rcases hk with rfl | rfl | rfl | rfl
  · exact ⟨0, rfl, by omega, by omega⟩
  · exact ⟨t - 1, rfl, by omega, by omega⟩
  · exact ⟨1, rfl, by omega, by omega⟩
  · exact ⟨t / 2, rfl, by omega, by omega⟩
theorem ok_words {f fD : Addr} {fd fdD : FuncData} {k : Nat} (F : Fun K "_law_words" "_law_words" s_law_words f fd) (GD : FnOk P w K mg base CX0 (k + 1) fD fdD ["well", "many"] spDraw) (kD : PySem.W.keepIn K (.ref fD) = true)
    (bD : Binds K fdD ["well", "many"] []) (gD : mg "_law_draw" = some (.ref fD)) (mr : mg "range" = none) : FnOk P w K mg base CX0 (k + 2) f fd ["well", "many", "top"] spWords := by
  refine F.ok sc_law_words (fun vs H Q E h => ?_) (fun cdv A outer s H vs Q E hr h => ?_)
  · obtain ⟨a, c, m, t, rfl, _⟩ := h
    rfl
  · obtain ⟨a, c, m, t, rfl, hm0, hm, ht, ht2, hw, q⟩ := h
    refine ⟨_, pss_cons (ps_set (i := 3) sc_law_words.nd rfl (.inl rfl) (pe_lst pa_nil))
      (pss_cons (ps_for PassesOwn.never rfl (pi_range1 (by rfl) mr (pa_cons (pv 1) pa_nil)) (pg_name (i := 4) sc_law_words.nd rfl (.inl rfl))
        (pss_cons (ps_set (i := 5) sc_law_words.nd rfl (.inl rfl) (pe_call GD hr (by rfl) gD kD bD .nil pass0 (pa_cons (pv 0) (pa_cons pe_int pa_nil))))
        (pss_one (ps_if (pt_cmpR op_lt (pv 5) pe_int (nomark _))
          (pss_one (ps_expr (pe_bm PySem.F.plainAttrs_list PySem.F.slot_list_append PySem.F.type_list_append mt_append (pv 3) (pa_cons (pe_ix ix_list (pe_lst (pa_cons pe_int (pa_cons (pe_op op_sub (pv 2) pe_int) (pa_cons pe_int (pa_cons (pe_op op_fdiv (pv 2) pe_int) pa_nil))))) (pv 5) (fun _ _ => rfl)) pa_nil))))
          (pss_one (ps_expr (pe_bm PySem.F.plainAttrs_list PySem.F.slot_list_append PySem.F.type_list_append mt_append (pv 3) (pa_cons (pe_call GD hr (by rfl) gD kD bD .nil pass0 (pa_cons (pv 0) (pa_cons (pv 2) pa_nil))) pa_nil))))))))
      (pss_one (ps_ret (pv 3)))), ?_⟩
    refine ⟨Nat.zero_le _, fun p hp => ?_⟩
    obtain ⟨npa, npc⟩ := hw.ne_new hp
    have old : ∀ b o, H b = some o → b ≠ p := fun b o e => ne_of_none e hp
    refine ⟨.int m, rfl, m, rfl, by omega, by omega, for_range (lo := 0) (n := m.toNat) (fun i σ H3 => ∃ y4 y5 xs, σ = [some (.ref a), some (.int m), some (.int t), some (.ref p), y4, y5] ∧ H3 p = some (.lst (xs.map V.int)) ∧ xs.length = i ∧ (∀ x ∈ xs, 0 ≤ x ∧ x < t) ∧ WL H3 a c ∧ Kp a c H H3)
      ⟨none, none, [], rfl, upd_same, rfl, (fun _ z => nomatch z), hw.upd npa npc, Same.kp (same_new hp)⟩ (fun i σ H3 hi hq => ?_) (fun σ H3 hq => ?_)⟩
    · obtain ⟨y4, y5, xs, rfl, ep, hl, hb, w3, k3⟩ := hq
      refine ⟨.ref a, rfl, a, c, 8, rfl, by decide, by decide, w3, fun H4 y y0 y1 w4 k4 => ?_⟩
      have ep4 := k4 _ _ npa npc ep
      have more : ∀ x : Int, 0 ≤ x → x < t → ∀ x' ∈ xs ++ [x], 0 ≤ x' ∧ x' < t := by
        intro x h0 h1 x' hx'
        rcases List.mem_append.mp hx' with h | h
        · exact hb x' h
        · rw [List.mem_singleton.mp h]
          exact ⟨h0, h1⟩
      have lens : ∀ x : Int, (xs ++ [x]).length = i + 1 := fun x => by
        rw [List.length_append, hl]
        rfl
      have puts : ∀ (H6 : Hp) (x : Int), Kp a c H H6 → Kp a c H (upd H6 p (.lst (xs.map V.int ++ [.int x]))) := fun H6 x k6 b o n1 n2 e => by
        rw [upd_ne (old b o e)]
        exact k6 b o n1 n2 e
      have small : (xs.map V.int).length < sizeLine := by
        rw [List.length_map]
        exact small1000 (by omega)
      refine ⟨.int y, rfl, y, 4, rfl, rfl, _, rfl, ite2 (fun e => ?_) (fun e => ?_)⟩
      · obtain ⟨x, hx, x0, x1⟩ := word_pick ht y0 (of_decide_eq_true e)
        refine ⟨.ref p, rfl, .inl ⟨rfl, _, .inl (.inl ep4)⟩, .int t, rfl, t, 1, rfl, rfl, .int t, rfl, t, 2, rfl, rfl, ⟨by decide, by decide⟩, by show 4 ≤ sizeLine; decide, fun l hl' => ?_⟩
        have sl := same_new (o := .lst [.int 0, .int (t - 1), .int 1, .int (t / 2)]) hl'
        obtain ⟨nla, nlc⟩ := w4.ne_new hl'
        refine ⟨.int y, rfl, l, _, y, .int x, rfl, rfl, .inl (.inl upd_same), hx, p, _, _, rfl, rfl, sl _ _ ep4, small, ?_⟩
        refine ⟨_, _, xs ++ [x], rfl, ?_, lens x, more x x0 x1, (w4.upd nla nlc).upd npa npc, puts _ x ((k3.trans k4).trans (Same.kp sl))⟩
        rw [upd_same, List.map_append]
        rfl
      · refine ⟨.ref p, rfl, .inl ⟨rfl, _, .inl (.inl ep4)⟩, .ref a, rfl, .int t, rfl, a, c, t, rfl, by omega, ht2, w4, fun H5 x x0 x1 w5 k5 => ?_⟩
        refine ⟨p, _, _, rfl, rfl, k5 _ _ npa npc ep4, small, ?_⟩
        refine ⟨_, _, xs ++ [x], rfl, ?_, lens x, more x x0 x1, w5.upd npa npc, puts _ x ((k3.trans k4).trans k5)⟩
        rw [upd_same, List.map_append]
        rfl
    · obtain ⟨y4, y5, xs, rfl, ep, hl, hb, w3, k3⟩ := hq
      exact ⟨.ref p, rfl, q H3 p xs ep (by omega) hb npa npc w3 k3⟩
/-! ### deed_value, values, worth -/
def spDv (K : PySem.W.Frag) : Sp := fun vs H Q _ => ∃ (r L : Addr) (d : Deed) (told : List Int) (size : Int), vs = [.ref r, .ref L, .int size] ∧ H r = some (.tup (dV d)) ∧ SqL K H L (told.map V.int) ∧ DeedOk told.length d ∧ Q (.int (dvalue d.1 (argAt d told 0) (argAt d told 1) size)) H
theorem ok_dv {f : Addr} {fd : FuncData} {k : Nat} (F : Fun K "deed_value" "deed_value" s_deed_value f fd) : FnOk P w K mg base CX0 (k + 1) f fd ["deed", "told", "size"] (spDv K) := by
  refine F.ok sc_deed_value (fun vs H Q E h => ?_) (fun cdv A outer s H vs Q E hr h => ?_)
  · obtain ⟨r, L, d, told, size, rfl, _⟩ := h
    rfl
  · obtain ⟨r, L, d, told, size, rfl, er, eL, ok, q⟩ := h
    refine ⟨_, pss_cons (ps_set (i := 3) sc_deed_value.nd rfl (.inl rfl) (pe_ix ix_tup (pv 0) pe_int (fun _ _ => rfl)))
      (pss_cons (ps_if (pt_cmpR op_eq (pv 3) pe_str (nomark _)) (pss_one (ps_ret pe_int)) pss_nil)
      (pss_cons (ps_if (pt_cmpR op_eq (pv 3) pe_str (nomark _)) (pss_one (ps_ret pe_int)) pss_nil)
      (pss_cons (ps_if (pt_cmpR op_eq (pv 3) pe_str (nomark _)) (pss_one (ps_ret (pe_op op_sub (pv 2) pe_int))) pss_nil)
      (pss_cons (ps_set (i := 4) sc_deed_value.nd rfl (.inl rfl) (pe_ix ix_list (pv 1) (pe_ix ix_tup (pv 0) pe_int (fun _ _ => rfl)) (fun _ _ => rfl)))
      (pss_cons (ps_if (pt_cmpR op_eq (pv 3) pe_str (nomark _)) (pss_one (ps_ret (pe_op op_sub (pe_op op_sub (pv 2) pe_int) (pv 4)))) pss_nil)
      (pss_cons (ps_if (pt_cmpR op_eq (pv 3) pe_str (nomark _)) (pss_one (ps_ret (pe_un un_neg (pv 4)))) pss_nil)
      (pss_cons (ps_if (pt_cmpR op_eq (pv 3) pe_str (nomark _)) (pss_one (ps_ret (pe_op op_add (pv 4) (pv 4)))) pss_nil)
      (pss_cons (ps_set (i := 5) sc_deed_value.nd rfl (.inl rfl) (pe_ix ix_list (pv 1) (pe_ix ix_tup (pv 0) pe_int (fun _ _ => rfl)) (fun _ _ => rfl)))
      (pss_cons (ps_if (pt_cmpR op_eq (pv 3) pe_str (nomark _)) (pss_one (ps_ret (pe_op op_and (pv 4) (pv 5)))) pss_nil)
      (pss_cons (ps_if (pt_cmpR op_eq (pv 3) pe_str (nomark _)) (pss_one (ps_ret (pe_op op_or (pv 4) (pv 5)))) pss_nil)
      (pss_cons (ps_if (pt_cmpR op_eq (pv 3) pe_str (nomark _)) (pss_one (ps_ret (pe_op op_xor (pv 4) (pv 5)))) pss_nil)
      (pss_cons (ps_if (pt_cmpR op_eq (pv 3) pe_str (nomark _)) (pss_one (ps_ret (pe_op op_add (pv 4) (pv 5)))) pss_nil)
      (pss_one (ps_ret (pe_op op_sub (pv 4) (pv 5)))))))))))))))), ?_⟩
    unfold dvalue at q
    refine ⟨.ref r, rfl, r, _, 0, .str d.1, rfl, rfl, SqT.of er, dv0 d, ?_⟩
    refine ⟨.str d.1, rfl, rfl, _, rfl, ite2 (fun e => ?_) (fun n1 => ?_)⟩
    · rw [if_pos (strEq e)] at q
      exact q
    rw [if_neg (strNe n1)] at q
    refine ⟨.str d.1, rfl, rfl, _, rfl, ite2 (fun e => ?_) (fun n2 => ?_)⟩
    · rw [if_pos (strEq e)] at q
      exact q
    rw [if_neg (strNe n2)] at q
    refine ⟨.str d.1, rfl, rfl, _, rfl, ite2 (fun e => ?_) (fun n3 => ?_)⟩
    · rw [if_pos (strEq e)] at q
      exact ⟨.int size, rfl, size, 1, rfl, rfl, q⟩
    rw [if_neg (strNe n3)] at q
    obtain ⟨i, hi, ai, ei⟩ := arg1 ok (strNe n1) (strNe n2) (strNe n3)
    refine ⟨.ref L, rfl, .ref r, rfl, r, _, 1, .int i, rfl, rfl, SqT.of er, dvN (k := 0) hi, L, _, i, .int (argAt d told 0), rfl, rfl, eL, ei, ?_⟩
    refine ⟨.str d.1, rfl, rfl, _, rfl, ite2 (fun e => ?_) (fun n4 => ?_)⟩
    · rw [if_pos (strEq e)] at q
      exact ⟨.int size, rfl, size, 1, rfl, rfl, .int _, rfl, _, _, rfl, rfl, q⟩
    rw [if_neg (strNe n4)] at q
    refine ⟨.str d.1, rfl, rfl, _, rfl, ite2 (fun e => ?_) (fun n5 => ?_)⟩
    · rw [if_pos (strEq e)] at q
      exact ⟨.int _, rfl, _, rfl, q⟩
    rw [if_neg (strNe n5)] at q
    refine ⟨.str d.1, rfl, rfl, _, rfl, ite2 (fun e => ?_) (fun n6 => ?_)⟩
    · rw [if_pos (strEq e)] at q
      exact ⟨.int _, rfl, .int _, rfl, _, _, rfl, rfl, q⟩
    rw [if_neg (strNe n6)] at q
    obtain ⟨j, hj, aj, ej⟩ := arg2 ok (strNe n1) (strNe n2) (strNe n3) (strNe n4) (strNe n5) (strNe n6)
    refine ⟨.ref L, rfl, .ref r, rfl, r, _, 2, .int j, rfl, rfl, SqT.of er, dvN (k := 1) hj, L, _, j, .int (argAt d told 1), rfl, rfl, eL, ej, ?_⟩
    refine ⟨.str d.1, rfl, rfl, _, rfl, ite2 (fun e => ?_) (fun n7 => ?_)⟩
    · rw [if_pos (strEq e)] at q
      exact ⟨.int _, rfl, .int _, rfl, _, _, rfl, rfl, q⟩
    rw [if_neg (strNe n7)] at q
    refine ⟨.str d.1, rfl, rfl, _, rfl, ite2 (fun e => ?_) (fun n8 => ?_)⟩
    · rw [if_pos (strEq e)] at q
      exact ⟨.int _, rfl, .int _, rfl, _, _, rfl, rfl, q⟩
    rw [if_neg (strNe n8)] at q
    refine ⟨.str d.1, rfl, rfl, _, rfl, ite2 (fun e => ?_) (fun n9 => ?_)⟩
    · rw [if_pos (strEq e)] at q
      exact ⟨.int _, rfl, .int _, rfl, _, _, rfl, rfl, q⟩
    rw [if_neg (strNe n9)] at q
    refine ⟨.str d.1, rfl, rfl, _, rfl, ite2 (fun e => ?_) (fun n10 => ?_)⟩
    · rw [if_pos (strEq e)] at q
      exact ⟨.int _, rfl, .int _, rfl, _, _, rfl, rfl, q⟩
    rw [if_neg (strNe n10)] at q
    exact ⟨.int _, rfl, .int _, rfl, _, _, rfl, rfl, q⟩
def spVals (K : PySem.W.Frag) : Sp := fun vs H Q _ => ∃ (R W : Addr) (m o : Int) (ds : List Deed) (xs : List Int) (n : Nat), vs = [.ref R, .int (n : Int), .ref W] ∧ RowAt H R m ds o ∧ DsOk m ds ∧ ds.length ≤ 100 ∧ SqL K H W (xs.map V.int) ∧ (xs.length : Int) = m ∧ xs.length ≤ 100 ∧ n ≤ 1000 ∧
  ∀ H' L, Same H H' → H L = none → H' L = some (.lst ((vals (2 ^ n) ds xs).map V.int)) → Q (.ref L) H'
theorem ok_vals {f fV : Addr} {fd fdV : FuncData} {k : Nat} (F : Fun K "values" "values" s_values f fd) (GV : FnOk P w K mg base CX0 (k + 1) fV fdV ["deed", "told", "size"] (spDv K)) (kV : PySem.W.keepIn K (.ref fV) = true) (bV : Binds K fdV ["deed", "told", "size"] [])
    (gV : mg "deed_value" = some (.ref fV)) (ml : mg "list" = none) : FnOk P w K mg base CX0 (k + 2) f fd ["row", "width", "words"] (spVals K) := by
  refine F.ok sc_values (fun vs H Q E h => ?_) (fun cdv A outer s H vs Q E hr h => ?_)
  · obtain ⟨R, W, m, o, ds, xs, n, rfl, _⟩ := h
    rfl
  · obtain ⟨R, W, m, o, ds, xs, n, rfl, hrow, hok, hds, eW, hm, hxs, hn, q⟩ := h
    obtain ⟨D, rs, eR, eD, hd⟩ := id hrow
    refine ⟨_, pss_cons (ps_set (i := 3) sc_values.nd rfl (.inl rfl) (pe_op op_shl pe_int (pv 1)))
      (pss_cons (ps_set (i := 4) sc_values.nd rfl (.inl rfl) (pe_callTy call_list_of (by rfl) ml (by decide +kernel) (pa_cons (pv 2) pa_nil)))
      (pss_cons (ps_for PassesOwn.never rfl (pi_tup (pe_ix ix_tup (pv 0) pe_int (fun _ _ => rfl))) (pg_name (i := 5) sc_values.nd rfl (.inl rfl))
        (pss_one (ps_expr (pe_bm PySem.F.plainAttrs_list PySem.F.slot_list_append PySem.F.type_list_append mt_append (pv 4) (pa_cons (pe_op op_mod (pe_call GV hr (by rfl) gV kV bV .nil pass0 (pa_cons (pv 5) (pa_cons (pv 4) (pa_cons (pv 3) pa_nil)))) (pv 3)) pa_nil)))))
      (pss_one (ps_ret (pv 4))))), ?_⟩
    have hpos : (0 : Int) < 2 ^ n := Int.pow_pos (by decide)
    have esz : (1 : Int) * 2 ^ ((n : Int).toNat) = 2 ^ n := by rw [Int.one_mul, Int.toNat_natCast]
    refine ⟨.int n, rfl, 1, n, rfl, rfl, ⟨by omega, by omega, by decide⟩, .ref W, rfl, W, _, rfl, .inl eW, fun L hL => ?_⟩
    have sL := same_new (o := .lst (xs.map V.int)) hL
    refine ⟨.ref R, rfl, R, _, 1, .ref D, rfl, rfl, SqT.of (sL _ _ eR), rfl, D, rfl, ⟨_, SqT.of (sL _ _ eD)⟩, for_tup (K := K) (a := D) (xs := rs.map V.ref) (fun i σ H3 => ∃ y, σ = [some (.ref R), some (.int n), some (.ref W), some (.int (1 * 2 ^ ((n : Int).toNat))), some (.ref L), y] ∧ H3 L = some (.lst ((vals (2 ^ n) (ds.take i) xs).map V.int)) ∧ Same H H3) ⟨none, rfl, upd_same, sL⟩ (fun i σ H3 _ hp => ?_) (fun i x σ H3 hx hp => ?_) (fun σ H3 hp => ?_)⟩
    · obtain ⟨_, _, _, sm⟩ := hp
      exact SqT.of (sm _ _ eD)
    · obtain ⟨y, rfl, e3, sm⟩ := hp
      have hi : i < rs.length := by
        have := (List.getElem?_eq_some_iff.mp hx).1
        rwa [List.length_map] at this
      have hx' : x = .ref rs[i] := by
        rw [List.getElem?_map, List.getElem?_eq_getElem hi] at hx
        exact (Option.some.inj hx).symm
      subst hx'
      obtain ⟨d, hd1, hd2⟩ := awGet hd (List.getElem?_eq_getElem hi)
      have hlen : (vals (2 ^ n) (ds.take i) xs).length = xs.length + i := by
        have h2 : i < ds.length := by
          rw [← awLen hd]
          exact hi
        rw [vals_len, List.length_take, Nat.min_eq_left (Nat.le_of_lt h2)]
      have okd : DeedOk (vals (2 ^ n) (ds.take i) xs).length d := by
        rw [hlen]
        have := hok.each i d hd1
        rw [← hm] at this
        exact this
      refine ⟨.ref L, rfl, .inl ⟨rfl, _, .inl (.inl e3)⟩, .ref rs[i], rfl, .ref L, rfl, .int (1 * 2 ^ ((n : Int).toNat)), rfl, rs[i], L, d, _, _, rfl, sm _ _ hd2, .inl (.inl e3), okd, .int (1 * 2 ^ ((n : Int).toNat)), rfl, _, _, rfl, rfl, (by show (0 : Int) < 1 * 2 ^ ((n : Int).toNat); rw [esz]; exact hpos), L, _, _, rfl, rfl, e3, ?_, some (.ref rs[i]), rfl, ?_, ?_⟩
      · rw [List.length_map, hlen]
        exact small1000 (by rw [awLen hd] at hi; omega)
      · rw [upd_same, vals_next hd1, List.map_append]
        simp only [esz]
        rfl
      · intro b u e
        rw [upd_ne (ne_of_none e hL)]
        exact sm b u e
    · obtain ⟨y, rfl, e3, sm⟩ := hp
      rw [List.length_map, awLen hd, List.take_length] at e3
      exact ⟨.ref L, rfl, q H3 L sm hL e3⟩
def spWorth (K : PySem.W.Frag) : Sp := fun vs H Q _ => ∃ (R W : Addr) (m o : Int) (ds : List Deed) (xs : List Int) (n : Nat), vs = [.ref R, .int (n : Int), .ref W] ∧ RowAt H R m ds o ∧ DsOk m ds ∧ ds.length ≤ 100 ∧ SqL K H W (xs.map V.int) ∧ (xs.length : Int) = m ∧ xs.length ≤ 100 ∧ n ≤ 1000 ∧
  0 ≤ o ∧ o < m + ds.length ∧ ∀ H', Same H H' → Q (.int ((vals (2 ^ n) ds xs).getD o.toNat 0)) H'
theorem ok_worth {f fV : Addr} {fd fdV : FuncData} {k : Nat} (F : Fun K "worth" "worth" s_worth f fd) (GV : FnOk P w K mg base CX0 (k + 2) fV fdV ["row", "width", "words"] (spVals K)) (kV : PySem.W.keepIn K (.ref fV) = true) (bV : Binds K fdV ["row", "width", "words"] [])
    (gV : mg "values" = some (.ref fV)) : FnOk P w K mg base CX0 (k + 3) f fd ["row", "width", "words"] (spWorth K) := by
  refine F.ok sc_worth (fun vs H Q E h => ?_) (fun cdv A outer s H vs Q E hr h => ?_)
  · obtain ⟨R, W, m, o, ds, xs, n, rfl, _⟩ := h
    rfl
  · obtain ⟨R, W, m, o, ds, xs, n, rfl, hrow, hok, hds, eW, hm, hxs, hn, o0, o1, q⟩ := h
    obtain ⟨D, rs, eR, eD, hd⟩ := id hrow
    refine ⟨_, pss_one (ps_ret (pe_ix ix_list (pe_call GV hr (by rfl) gV kV bV .nil pass0 (pa_cons (pv 0) (pa_cons (pv 1) (pa_cons (pv 2) pa_nil)))) (pe_ix ix_tup (pv 0) pe_int (fun _ _ => rfl)) (fun _ _ => rfl))), ?_⟩
    refine ⟨.ref R, rfl, .int n, rfl, .ref W, rfl, R, W, m, o, ds, xs, n, rfl, hrow, hok, hds, eW, hm, hxs, hn, fun H2 L s2 hL e2 => ?_⟩
    refine ⟨.ref R, rfl, R, _, 2, .int o, rfl, rfl, SqT.of (s2 _ _ eR), rfl, L, _, o, _, rfl, rfl, .inl (.inl e2), atI_ints o0 ?_, q H2 s2⟩
    rw [vals_len]
    omega
/-! ### chains of sums -/
def ch12 : List Str := ["add", "sub", "add", "sub", "neg", "not", "twice", "add", "sub", "none", "one", "all"]
def sumW : List Str := ["none", "one", "all", "neg", "not", "twice", "add", "sub"]
def chK : List (Key × V) := [(Sum.inr "none", .int 0), (Sum.inr "one", .int 0), (Sum.inr "all", .int 0), (Sum.inr "neg", .int 1), (Sum.inr "not", .int 1), (Sum.inr "twice", .int 1), (Sum.inr "add", .int 2), (Sum.inr "sub", .int 2)]
theorem ch_size : ∀ x ∈ ch12, x ∈ sumW ∧ ((valV (mergeK [] chK) (Sum.inr x) = some (.int 0) ∧ (x, (0 : Int)) ∈ fwL) ∨ (valV (mergeK [] chK) (Sum.inr x) = some (.int 1) ∧ (x, (1 : Int)) ∈ fwL) ∨ (valV (mergeK [] chK) (Sum.inr x) = some (.int 2) ∧ (x, (2 : Int)) ∈ fwL)) := by decide +kernel
def spCh : Sp := fun vs H Q _ => ∃ (a c : Addr) (m : Int), vs = [.ref a, .int m] ∧ 1 ≤ m ∧ m ≤ 3 ∧ WL H a c ∧
  ∀ H' D rs ds, H' D = some (.tup (rs.map V.ref)) → DsAt H' rs ds → DsOk m ds → ds.length = 8 → (∀ d ∈ ds, d.1 ∈ sumW) → WL H' a c → Kp a c H H' → Q (.ref D) H'
theorem ok_ch {f fD : Addr} {fd fdD : FuncData} {k : Nat} (F : Fun K "_law_chain" "_law_chain" s_law_chain f fd) (GD : FnOk P w K mg base CX0 (k + 1) fD fdD ["well", "many"] spDraw) (kD : PySem.W.keepIn K (.ref fD) = true) (bD : Binds K fdD ["well", "many"] []) (gD : mg "_law_draw" = some (.ref fD))
    (mr : mg "range" = none) (mx : mg "max" = none) (mt : mg "tuple" = none) : FnOk P w K mg base CX0 (k + 2) f fd ["well", "many"] spCh := by
  refine F.ok sc_law_chain (fun vs H Q E h => ?_) (fun cdv A outer s H vs Q E hr h => ?_)
  · obtain ⟨a, c, m, rfl, _⟩ := h
    rfl
  · obtain ⟨a, c, m, rfl, hm, hm3, hw, q⟩ := h
    refine ⟨_, pss_cons (ps_set (i := 2) sc_law_chain.nd rfl (.inl rfl) (pe_cmpR op_eq (pe_call GD hr (by rfl) gD kD bD .nil pass0 (pa_cons (pv 0) (pa_cons pe_int pa_nil))) pe_int (nomark _)))
      (pss_cons (ps_set (i := 3) sc_law_chain.nd rfl (.inl rfl) (pe_lst (pa_cons pe_str (pa_cons pe_str (pa_cons pe_str (pa_cons pe_str (pa_cons pe_str (pa_cons pe_str (pa_cons pe_str (pa_cons pe_str (pa_cons pe_str (pa_cons pe_str (pa_cons pe_str (pa_cons pe_str pa_nil))))))))))))))
      (pss_cons (ps_set (i := 4) sc_law_chain.nd rfl (.inl rfl) (pe_lst pa_nil))
      (pss_cons (ps_for PassesOwn.never rfl (pi_range1 (by rfl) mr (pa_cons pe_int pa_nil)) (pg_name (i := 5) sc_law_chain.nd rfl (.inl rfl))
        (pss_cons (ps_set (i := 6) sc_law_chain.nd rfl (.inl rfl) (pe_ix ix_list (pv 3) (pe_call GD hr (by rfl) gD kD bD .nil pass0 (pa_cons (pv 0) (pa_cons pe_int pa_nil))) (fun _ _ => rfl)))
        (pss_cons (ps_set (i := 7) sc_law_chain.nd rfl (.inl rfl) (pe_op op_add (pv 1) (pv 5)))
        (pss_cons (ps_set (i := 8) sc_law_chain.nd rfl (.inl rfl) (pe_lst (pa_cons (pe_op op_sub (pv 7) pe_int) (pa_cons (pe_callB (call_max2 rfl) (by rfl) mx (by decide +kernel) (pa_cons pe_int (pa_cons (pe_op op_sub (pe_op op_sub (pv 7) pe_int) (pe_call GD hr (by rfl) gD kD bD .nil pass0 (pa_cons (pv 0) (pa_cons pe_int pa_nil)))) pa_nil))) pa_nil))))
        (pss_mid (ps_if (pt_not (pt_val (pv 2))) (pss_one (ps_set (i := 8) sc_law_chain.nd rfl (.inl rfl) (pe_lst (pa_cons (pe_call GD hr (by rfl) gD kD bD .nil pass0 (pa_cons (pv 0) (pa_cons (pv 7) pa_nil))) (pa_cons (pe_call GD hr (by rfl) gD kD bD .nil pass0 (pa_cons (pv 0) (pa_cons (pv 7) pa_nil))) pa_nil))))) pss_nil)
        (pss_cons (ps_set (i := 9) sc_law_chain.nd rfl (.inl rfl) (pe_dget (hu_of hr) (pe_disp (pps_cons pe_str pe_int (pps_cons pe_str pe_int (pps_cons pe_str pe_int (pps_cons pe_str pe_int (pps_cons pe_str pe_int (pps_cons pe_str pe_int (pps_cons pe_str pe_int (pps_cons pe_str pe_int pps_nil)))))))) (by rfl) (by rfl) (fun z => by cases z) (by decide)) (pv 6) (fun _ _ => rfl)))
        (pss_one (ps_expr (pe_bm PySem.F.plainAttrs_list PySem.F.slot_list_append PySem.F.type_list_append mt_append (pv 4) (pa_cons (pe_op op_catZ (pe_tup (pa_cons (pv 6) pa_nil)) (pe_callTy call_tuple_of (by rfl) mt (by decide +kernel) (pa_cons (pe_slice sl_list (pv 8) po_none (po_some (pv 9))) pa_nil))) pa_nil))))))))))
      (pss_one (ps_ret (pe_callTy call_tuple_of (by rfl) mt (by decide +kernel) (pa_cons (pv 4) pa_nil))))))), ?_⟩
    refine ⟨.ref a, rfl, a, c, 2, rfl, by decide, by decide, hw, fun H1 uz u0 u1 w1 k1 => ⟨rfl, by show 12 ≤ sizeLine; decide, fun S hS => ⟨Nat.zero_le _, fun D hD => ?_⟩⟩⟩
    obtain ⟨nS1, nS2⟩ := w1.ne_new hS
    have sS := same_new (o := .lst (ch12.map V.str)) hS
    have w2 := w1.upd (o := .lst (ch12.map V.str)) nS1 nS2
    obtain ⟨nD1, nD2⟩ := w2.ne_new hD
    have sD := same_new (o := .lst []) hD
    have eS0 : upd (upd H1 S (.lst (ch12.map V.str))) D (.lst []) S = some (.lst (ch12.map V.str)) := sD _ _ upd_same
    have nSD : S ≠ D := ne_of_none upd_same hD
    have kH : Kp a c H (upd (upd H1 S (.lst (ch12.map V.str))) D (.lst [])) := (k1.trans (Same.kp sS)).trans (Same.kp sD)
    have oldD : ∀ b o, b ≠ a → b ≠ c → H b = some o → b ≠ D := fun b o n1 n2 e z => by
      have z1 := sS _ _ (k1 b o n1 n2 e)
      have hD' : upd H1 S (.lst (ch12.map V.str)) D = none := hD
      rw [z, hD'] at z1
      cases z1
    refine ⟨8, rfl, by decide, by decide, for_range (lo := 0) (n := 8) (fun i σ H3 => ∃ y5 y6 y7 y8 y9 rs ds, σ = [some (.ref a), some (.int m), some (.bl (decide (V.int uz = V.int 0))), some (.ref S), some (.ref D), y5, y6, y7, y8, y9] ∧ H3 S = some (.lst (ch12.map V.str)) ∧ H3 D = some (.lst (rs.map V.ref)) ∧ DsAt H3 rs ds ∧ ds.length = i ∧ DsOk m ds ∧ (∀ d ∈ ds, d.1 ∈ sumW) ∧ WL H3 a c ∧ Kp a c H H3)
      ⟨none, none, none, none, none, [], [], rfl, eS0, upd_same, .nil, rfl, ⟨fun k d e => by simp at e⟩, (fun _ z => nomatch z), w2.upd nD1 nD2, kH⟩ (fun i σ H3 hi hp => ?_) (fun σ H3 hp => ?_)⟩
    · obtain ⟨y5, y6, y7, y8, y9, rs, ds, rfl, eS, eD, hd, hl, ok, hsw, w3, k3⟩ := hp
      refine ⟨.ref S, rfl, .ref a, rfl, a, c, 12, rfl, by decide, by decide, w3, fun H4 z z0 z1 w4 k4 => ?_⟩
      obtain ⟨v, hv, hvm⟩ := atI_in (l := ch12.map V.str) z0 (by show z < 12; exact z1)
      obtain ⟨x, hx, rfl⟩ := mem_strs hvm
      have eS4 := k4 _ _ nS1 nS2 eS
      have eD4 := k4 _ _ nD1 nD2 eD
      have hd4 := (k4.tups w3).ds hd
      refine ⟨S, _, z, .str x, rfl, rfl, .inl (.inl eS4), hv, ?_⟩
      refine ⟨.int m, rfl, .int (0 + i), rfl, m, 0 + i, rfl, rfl, ?_⟩
      refine ⟨.int (m + (0 + i)), rfl, m + (0 + i), 1, rfl, rfl, .int (m + (0 + i)), rfl, m + (0 + i), 1, rfl, rfl, .ref a, rfl, a, c, 2, rfl, by decide, by decide, w4, fun H5 y y0 y1 w5 k5 => ?_⟩
      refine ⟨_, y, rfl, rfl, 0, _, rfl, by show 2 ≤ sizeLine; decide, fun Nn hNn => ?_⟩
      obtain ⟨nN1, nN2⟩ := w5.ne_new hNn
      have eS5 := k5 _ _ nS1 nS2 eS4
      have eD5 := k5 _ _ nD1 nD2 eD4
      have hd5 := (k5.tups w4).ds hd4
      have kH5 := (k3.trans k4).trans k5
      obtain ⟨j1, hj1⟩ : ∃ j1 : Int, j1 = if m + (0 + (i : Int)) - 1 - y > 0 then m + (0 + (i : Int)) - 1 - y else 0 := ⟨_, rfl⟩
      have hj1b : 0 ≤ j1 ∧ j1 < m + (0 + i) := by
        rw [hj1]
        split <;> omega
      have sN := fun o => same_new (o := o) hNn
      refine ⟨fun σ6 H6 => ∃ N2 i0 j0, σ6 = [some (.ref a), some (.int m), some (.bl (decide (V.int uz = V.int 0))), some (.ref S), some (.ref D), some (.int (0 + i)), some (.str x), some (.int (m + (0 + i))), some (.ref N2), y9] ∧ H6 N2 = some (.lst [.int i0, .int j0]) ∧ 0 ≤ i0 ∧ i0 < m + (0 + i) ∧ 0 ≤ j0 ∧ j0 < m + (0 + i) ∧ H6 S = some (.lst (ch12.map V.str)) ∧ H6 D = some (.lst (rs.map V.ref)) ∧ DsAt H6 rs ds ∧ WL H6 a c ∧ Kp a c H H6, ?_, ?_⟩
      · refine ⟨_, rfl, _, rfl, ?_⟩
        have w6 := w5.upd (o := .lst [.int (m + (0 + i) - 1), .int (if m + (0 + (i : Int)) - 1 - y > 0 then m + (0 + (i : Int)) - 1 - y else 0)]) nN1 nN2
        by_cases hu : decide (V.int uz = V.int 0) = true
        · rw [hu]
          refine ⟨Nn, m + (0 + i) - 1, j1, rfl, ?_, by omega, by omega, hj1b.1, hj1b.2, sN _ _ _ eS5, sN _ _ _ eD5, (Same.tups (sN _)).ds hd5, w6, kH5.trans (Same.kp (sN _))⟩
          rw [hj1]
          exact upd_same
        · rw [Bool.not_eq_true] at hu
          rw [hu]
          refine ⟨.ref a, rfl, .int (m + (0 + i)), rfl, a, c, m + (0 + i), rfl, by omega, by omega, w6, fun H6 i0 i00 i01 w7 k7 => ?_⟩
          refine ⟨.ref a, rfl, .int (m + (0 + i)), rfl, a, c, m + (0 + i), rfl, by omega, by omega, w7, fun H7 j0 j00 j01 w8 k8 => ?_⟩
          refine ⟨by show 2 ≤ sizeLine; decide, fun N2 hN2 => ?_⟩
          obtain ⟨n1, n2⟩ := w8.ne_new hN2
          have s2 := same_new (o := .lst [.int i0, .int j0]) hN2
          have k78 := k7.trans k8
          refine ⟨N2, i0, j0, rfl, upd_same, i00, i01, j00, j01, s2 _ _ (k78 _ _ nS1 nS2 (sN _ _ _ eS5)), s2 _ _ (k78 _ _ nD1 nD2 (sN _ _ _ eD5)), ?_, w8.upd n1 n2, ((kH5.trans (Same.kp (sN _))).trans k78).trans (Same.kp s2)⟩
          exact (((Same.tups (sN _)).trans (k7.tups w6)).trans ((k8.tups w7).trans (Same.tups s2))).ds hd5
      · rintro σ6 H6 ⟨N2, i0, j0, rfl, eN, i00, i01, j00, j01, eS6, eD6, hd6, w6, k6⟩
        intro p hp
        have sp := same_new (o := .dK (mergeK [] chK)) hp
        refine ⟨upd_same, chK, rfl, (by show 8 ≤ 15; decide), .str x, rfl, p, ?_⟩
        rw [upd_upd]
        obtain ⟨hxs, hsz⟩ := ch_size x hx
        obtain ⟨n, nums, hval, hcut, hfw, hal⟩ : ∃ (n : Int) (nums : List Int), valV (mergeK [] chK) (Sum.inr x) = some (.int n) ∧ cutV [.int i0, .int j0] none (some n) = nums.map V.int ∧ (x, (nums.length : Int)) ∈ fwL ∧ ∀ q ∈ nums, 0 ≤ q ∧ q < m + (0 + i) := by
          rcases hsz with ⟨h1, h2⟩ | ⟨h1, h2⟩ | ⟨h1, h2⟩
          · exact ⟨0, [], h1, rfl, h2, (fun _ z => nomatch z)⟩
          · refine ⟨1, [i0], h1, rfl, h2, fun q hq => ?_⟩
            rw [List.mem_singleton.mp hq]
            exact ⟨i00, i01⟩
          · refine ⟨2, [i0, j0], h1, rfl, h2, fun q hq => ?_⟩
            simp only [List.mem_cons, List.not_mem_nil, or_false] at hq
            rcases hq with rfl | rfl
            · exact ⟨i00, i01⟩
            · exact ⟨j00, j01⟩
        obtain ⟨np1, np2⟩ := w6.ne_new hp
        have w7 := w6.upd (o := .dK (mergeK [] chK)) np1 np2
        have eD7 := sp _ _ eD6
        refine ⟨.int n, rfl, dget_at (k := Sum.inr x) upd_same hval, ?_⟩
        refine ⟨.ref D, rfl, .inl ⟨rfl, _, .inl (.inl eD7)⟩, .str x, rfl, by show 1 ≤ sizeLine; decide, fun U hU => ?_⟩
        have sU := same_new (o := .tup [.str x]) hU
        refine ⟨.ref N2, rfl, .int n, rfl, n, rfl, N2, _, rfl, .inl (.inl (sU _ _ (sp _ _ eN))), fun M hM => ?_⟩
        rw [hcut]
        have sM := same_new (o := .lst (nums.map V.int)) hM
        refine ⟨M, _, rfl, .inl ⟨.inl (.inl upd_same), fun T hT => ?_⟩⟩
        have sT := same_new (o := .tup (nums.map V.int)) hT
        have l2 : (nums.length : Int) ≤ 2 := (fw_short _ hfw).2.2
        refine ⟨U, T, _, _, rfl, rfl, sT _ _ (sM _ _ upd_same), upd_same, by rw [List.length_map]; exact Nat.le_of_lt (small1000 (by show 1 + nums.length ≤ 1000; omega)), fun Y H8 s8 eY => ?_⟩
        have sA := ((sU.trans sM).trans sT).trans s8
        have eD8 := sA _ _ eD7
        have w8 := w7.same sA
        refine ⟨D, _, _, rfl, rfl, eD8, by rw [List.length_map, awLen hd6]; exact small1000 (by omega), _, _, _, _, _, rs ++ [Y], ds ++ [(x, nums)], rfl, ?_, ?_, ?_, ?_, ?_, ?_, w8.upd nD1 nD2, ?_⟩
        · rw [upd_ne nSD]
          exact sA _ _ (sp _ _ eS6)
        · rw [upd_same, List.map_append]
          rfl
        · exact (tups_put eD8).ds (awSnoc (F := fun r d => H8 r = some (.tup (dV d))) eY ((Same.tups (sp.trans sA)).ds hd6))
        · rw [List.length_append, hl]
          rfl
        · refine dsOk_snoc ok ⟨hfw, fun q hq => ?_⟩
          have := hal q hq
          rw [hl]
          omega
        · intro d hd'
          rcases List.mem_append.mp hd' with h | h
          · exact hsw d h
          · rw [List.mem_singleton.mp h]
            exact hxs
        · intro b o n1 n2 e
          rw [upd_ne (oldD b o n1 n2 e)]
          exact sA _ _ (sp _ _ (k6 b o n1 n2 e))
    · obtain ⟨y5, y6, y7, y8, y9, rs, ds, rfl, eS, eD, hd, hl, ok, hsw, w3, k3⟩ := hp
      refine ⟨.ref D, rfl, D, _, rfl, .inl ⟨.inl (.inl eD), fun T hT => ?_⟩⟩
      have sT := same_new (o := .tup (rs.map V.ref)) hT
      obtain ⟨n1, n2⟩ := w3.ne_new hT
      exact q _ T rs ds upd_same ((Same.tups sT).ds hd) ok hl hsw (w3.upd n1 n2) (k3.trans (Same.kp sT))
/-! ### sums: how often each word stands in a value, and the number beside -/
abbrev Sm := List Int × Int
def pl (p : Sm) : List Int := p.1 ++ [p.2]
def dot : List Int → List Int → Int
  | a :: as, x :: xs => a * x + dot as xs
  | _, _ => 0
def zeroS (m : Nat) : Sm := (List.replicate m 0, 0)
def sArg (m : Nat) (d : Deed) (ps : List Sm) (k : Nat) : Sm := match d.2[k]? with | some i => ps.getD i.toNat (zeroS m) | none => zeroS m
def dsum (m : Nat) (x : Str) (a b : Sm) : Sm :=
  if x = "none" then (List.replicate m 0, 0) else if x = "one" then (List.replicate m 0, 1) else if x = "all" then (List.replicate m 0, -1)
  else if x = "neg" then (a.1.map (0 - ·), 0 - a.2 - 0) else if x = "not" then (a.1.map (0 - ·), 0 - a.2 - 1) else if x = "twice" then (a.1.map (fun z => z + z), a.2 + a.2)
  else if x = "add" then (List.zipWith (· + ·) a.1 b.1, a.2 + b.2) else (List.zipWith (· - ·) a.1 b.1, a.2 - b.2)
def smsNext (m : Nat) (d : Deed) (ps : List Sm) : Sm := dsum m d.1 (sArg m d ps 0) (sArg m d ps 1)
def sms (m : Nat) : List Deed → List Sm → List Sm
  | [], ps => ps
  | d :: ds, ps => sms m ds (ps ++ [smsNext m d ps])
theorem sms_append (m : Nat) : ∀ (l1 l2 : List Deed) (t : List Sm), sms m (l1 ++ l2) t = sms m l2 (sms m l1 t)
  | [], _, _ => rfl
  | d :: l1, l2, t => sms_append m l1 l2 (t ++ [smsNext m d t])
theorem sms_next {m : Nat} {ds : List Deed} {i : Nat} {d : Deed} {t : List Sm} (h : ds[i]? = some d) : sms m (ds.take (i + 1)) t = sms m (ds.take i) t ++ [smsNext m d (sms m (ds.take i) t)] := by
  rw [List.take_add_one, h, sms_append]
  rfl
theorem sms_len {m : Nat} : ∀ (ds : List Deed) (t : List Sm), (sms m ds t).length = t.length + ds.length
  | [], _ => rfl
  | d :: ds, t => by
    show (sms m ds (t ++ [smsNext m d t])).length = _
    rw [sms_len ds, List.length_append, List.length_cons, List.length_cons, List.length_nil]
    omega
def uRow (m i : Nat) : List Int := (List.range m).map fun (j : Nat) => if decide (V.int (0 + (i : Int)) = V.int (0 + (j : Int))) = true then (1 : Int) else 0
def units (m n : Nat) : List Sm := (List.range n).map fun i => (uRow m i, 0)
theorem dot_zero : ∀ (m : Nat) (xs : List Int), dot (List.replicate m 0) xs = 0
  | 0, xs => by cases xs <;> rfl
  | m + 1, [] => rfl
  | m + 1, x :: xs => by
    show 0 * x + dot (List.replicate m 0) xs = 0
    rw [dot_zero m xs]
    omega
theorem dot_neg : ∀ (a xs : List Int), dot (a.map (0 - ·)) xs = - dot a xs
  | [], xs => by cases xs <;> rfl
  | _ :: _, [] => rfl
  | a :: as, x :: xs => by
    show (0 - a) * x + dot (as.map (0 - ·)) xs = - (a * x + dot as xs)
    rw [dot_neg as xs, Int.sub_mul]
    omega
theorem dot_twice : ∀ (a xs : List Int), dot (a.map (fun z => z + z)) xs = dot a xs + dot a xs
  | [], xs => by cases xs <;> rfl
  | _ :: _, [] => rfl
  | a :: as, x :: xs => by
    show (a + a) * x + dot (as.map (fun z => z + z)) xs = (a * x + dot as xs) + (a * x + dot as xs)
    rw [dot_twice as xs, Int.add_mul]
    omega
theorem dot_add : ∀ (a b xs : List Int), a.length = b.length → dot (List.zipWith (· + ·) a b) xs = dot a xs + dot b xs
  | [], [], xs, _ => by cases xs <;> rfl
  | [], _ :: _, _, h => by simp at h
  | _ :: _, [], _, h => by simp at h
  | _ :: _, _ :: _, [], _ => rfl
  | a :: as, b :: bs, x :: xs, h => by
    show (a + b) * x + dot (List.zipWith (· + ·) as bs) xs = (a * x + dot as xs) + (b * x + dot bs xs)
    rw [dot_add as bs xs (by simpa using h), Int.add_mul]
    omega
theorem dot_sub : ∀ (a b xs : List Int), a.length = b.length → dot (List.zipWith (· - ·) a b) xs = dot a xs - dot b xs
  | [], [], xs, _ => by cases xs <;> rfl
  | [], _ :: _, _, h => by simp at h
  | _ :: _, [], _, h => by simp at h
  | _ :: _, _ :: _, [], _ => rfl
  | a :: as, b :: bs, x :: xs, h => by
    show (a - b) * x + dot (List.zipWith (· - ·) as bs) xs = (a * x + dot as xs) - (b * x + dot bs xs)
    rw [dot_sub as bs xs (by simpa using h), Int.sub_mul]
    omega
theorem dot_sum : ∀ (a xs : List Int), (List.zipWith (· * ·) a xs).sum = dot a xs
  | [], xs => by cases xs <;> rfl
  | _ :: _, [] => rfl
  | a :: as, x :: xs => by
    show (a * x :: List.zipWith (· * ·) as xs).sum = a * x + dot as xs
    rw [List.sum_cons, dot_sum as xs]
theorem uRow_succ (m i : Nat) : uRow (m + 1) (i + 1) = 0 :: uRow m i := by
  unfold uRow
  rw [List.range_succ_eq_map, List.map_cons, List.map_map]
  congr 1
  apply List.map_congr_left
  intro j _
  simp only [Function.comp, decide_eq_true_eq, V.int.injEq]
  by_cases h : (0 : Int) + (i : Int) = 0 + (j : Int)
  · rw [if_pos h, if_pos (by omega)]
  · rw [if_neg h, if_neg (by omega)]
theorem uRow_zero (m : Nat) : uRow (m + 1) 0 = 1 :: List.replicate m 0 := by
  unfold uRow
  rw [List.range_succ_eq_map, List.map_cons, List.map_map]
  congr 1
  apply List.eq_replicate_iff.mpr
  refine ⟨by simp, fun b hb => ?_⟩
  obtain ⟨j, _, rfl⟩ := List.mem_map.mp hb
  simp only [Function.comp, decide_eq_true_eq, V.int.injEq]
  rw [if_neg (by omega)]
theorem dot_unit : ∀ (xs : List Int) (i : Nat) (x : Int), xs[i]? = some x → dot (uRow xs.length i) xs = x
  | [], _, _, h => by simp at h
  | y :: ys, 0, x, h => by
    simp only [List.getElem?_cons_zero, Option.some.injEq] at h
    subst h
    rw [List.length_cons, uRow_zero]
    show 1 * y + dot (List.replicate ys.length 0) ys = y
    rw [dot_zero]
    omega
  | y :: ys, i + 1, x, h => by
    simp only [List.getElem?_cons_succ] at h
    rw [List.length_cons, uRow_succ]
    show 0 * y + dot (uRow ys.length i) ys = x
    rw [dot_unit ys i x h]
    omega
def sval (N : Int) (xs : List Int) (p : Sm) : Int := (dot p.1 xs + p.2) % N
theorem uRow_len (m i : Nat) : (uRow m i).length = m := by
  unfold uRow
  rw [List.length_map, List.length_range]
theorem units_vals {N : Int} {xs : List Int} (h : ∀ x ∈ xs, 0 ≤ x ∧ x < N) : (units xs.length xs.length).map (sval N xs) = xs := by
  apply List.ext_getElem?
  intro i
  unfold units
  rw [List.map_map, List.getElem?_map]
  by_cases hi : i < xs.length
  · rw [List.getElem?_range hi, List.getElem?_eq_getElem hi]
    show some (sval N xs (uRow xs.length i, 0)) = _
    unfold sval
    rw [dot_unit xs i _ (List.getElem?_eq_getElem hi), Int.add_zero]
    obtain ⟨h0, h1⟩ := h _ (List.getElem_mem hi)
    rw [Int.emod_eq_of_lt h0 h1]
  · rw [List.getElem?_eq_none (by simpa using hi), List.getElem?_eq_none (by simpa using hi)]
    rfl
theorem dsum_len {m : Nat} {x : Str} {a b : Sm} (ha : a.1.length = m) (hb : b.1.length = m) : (dsum m x a b).1.length = m := by
  unfold dsum
  split; · simp
  split; · simp
  split; · simp
  split; · simp [ha]
  split; · simp [ha]
  split; · simp [ha]
  split; · simp [ha, hb]
  simp [ha, hb]
theorem em_neg {N a : Int} : (-(a % N)) % N = (-a) % N := emod_same (a / N) (by have := Int.mul_ediv_add_emod a N; omega)
theorem sum_val {m : Nat} {N : Int} {xs : List Int} {x : Str} {a b : Sm} (ha : a.1.length = m) (hb : b.1.length = m) (hx : x ∈ sumW) : sval N xs (dsum m x a b) = dvalue x (sval N xs a) (sval N xs b) N % N := by
  have e1 := Int.mul_ediv_add_emod (dot a.1 xs + a.2) N
  have e2 := Int.mul_ediv_add_emod (dot b.1 xs + b.2) N
  generalize hqa : (dot a.1 xs + a.2) / N = qa at e1
  generalize hqb : (dot b.1 xs + b.2) / N = qb at e2
  have s1 : sval N xs a = (dot a.1 xs + a.2) % N := rfl
  have s2 : sval N xs b = (dot b.1 xs + b.2) % N := rfl
  rw [← s1] at e1
  rw [← s2] at e2
  generalize sval N xs a = A at e1
  generalize sval N xs b = B at e2
  simp only [sumW, List.mem_cons, List.not_mem_nil, or_false] at hx
  rcases hx with rfl | rfl | rfl | rfl | rfl | rfl | rfl | rfl
  · show (dot (List.replicate m 0) xs + 0) % N = 0 % N
    rw [dot_zero]
    rfl
  · show (dot (List.replicate m 0) xs + 1) % N = 1 % N
    rw [dot_zero]
    rfl
  · show (dot (List.replicate m 0) xs + -1) % N = (N - 1) % N
    rw [dot_zero]
    exact emod_same (-1) (by omega)
  · show (dot (a.1.map (0 - ·)) xs + (0 - a.2 - 0)) % N = (-A) % N
    rw [dot_neg]
    exact emod_same (-qa) (by rw [Int.mul_neg]; omega)
  · show (dot (a.1.map (0 - ·)) xs + (0 - a.2 - 1)) % N = (N - 1 - A) % N
    rw [dot_neg]
    exact emod_same (-qa - 1) (by rw [Int.mul_sub, Int.mul_neg, Int.mul_one]; omega)
  · show (dot (a.1.map (fun z => z + z)) xs + (a.2 + a.2)) % N = (A + A) % N
    rw [dot_twice]
    exact emod_same (qa + qa) (by rw [Int.mul_add]; omega)
  · show (dot (List.zipWith (· + ·) a.1 b.1) xs + (a.2 + b.2)) % N = (A + B) % N
    rw [dot_add _ _ _ (by omega)]
    exact emod_same (qa + qb) (by rw [Int.mul_add]; omega)
  · show (dot (List.zipWith (· - ·) a.1 b.1) xs + (a.2 - b.2)) % N = (A - B) % N
    rw [dot_sub _ _ _ (by omega)]
    exact emod_same (qa - qb) (by rw [Int.mul_sub]; omega)
theorem getD_map {α β : Type} (f : α → β) (l : List α) (i : Nat) (a : α) (b : β) (h : i < l.length) : f (l.getD i a) = (l.map f).getD i b := by
  rw [List.getD_eq_getElem?_getD, List.getD_eq_getElem?_getD, List.getElem?_map, List.getElem?_eq_getElem h]
  rfl
theorem sArg_len {m : Nat} {d : Deed} {ps : List Sm} {k : Nat} (h : ∀ p ∈ ps, p.1.length = m) : (sArg m d ps k).1.length = m := by
  unfold sArg
  split
  · rename_i i _
    rw [List.getD_eq_getElem?_getD]
    cases e : ps[i.toNat]? with
    | none => simp [zeroS]
    | some p => exact h p (List.mem_of_getElem? e)
  · simp [zeroS]
theorem sArg_val {m : Nat} {d : Deed} {ps : List Sm} {k : Nat} {N : Int} {xs : List Int} (ok : DeedOk ps.length d) (hk : k < d.2.length) : sval N xs (sArg m d ps k) = argAt d (ps.map (sval N xs)) k := by
  have hg := List.getElem?_eq_getElem hk
  obtain ⟨h0, h1⟩ := ok.ahead _ (List.getElem_mem hk)
  unfold sArg argAt
  rw [List.getD_eq_getElem?_getD (l := d.2), hg]
  exact getD_map _ _ _ _ _ (by show (d.2[k]).toNat < ps.length; omega)
theorem dv_needs {x : Str} {n : Nat} (h : (x, (n : Int)) ∈ fwL) (hx : x ∈ sumW) (A B A2 B2 N : Int) (ha : 0 < n → A = A2) (hb : 1 < n → B = B2) : dvalue x A B N = dvalue x A2 B2 N := by
  rcases fw_cases h with ⟨rfl, hz⟩ | ⟨rfl, hz⟩ | ⟨rfl, hz⟩
  · clear h
    rcases hz with rfl | rfl | rfl <;> rfl
  · rw [ha (by decide)]
    clear h
    rcases hz with rfl | rfl | rfl <;> rfl
  · rw [ha (by decide), hb (by decide)]
theorem next_val {m : Nat} {d : Deed} {ps : List Sm} {N : Int} {xs : List Int} (ok : DeedOk ps.length d) (hx : d.1 ∈ sumW) (h : ∀ p ∈ ps, p.1.length = m) : sval N xs (smsNext m d ps) = dval N d (ps.map (sval N xs)) := by
  unfold smsNext dval
  rw [sum_val (sArg_len h) (sArg_len h) hx]
  congr 1
  exact dv_needs ok.word hx _ _ _ _ _ (fun hk => sArg_val ok hk) (fun hk => sArg_val ok hk)
theorem next_len {m : Nat} {d : Deed} {ps : List Sm} (h : ∀ p ∈ ps, p.1.length = m) : (smsNext m d ps).1.length = m := dsum_len (sArg_len h) (sArg_len h)
theorem sms_lens {m : Nat} : ∀ {ds : List Deed} {ps : List Sm}, (∀ p ∈ ps, p.1.length = m) → ∀ p ∈ sms m ds ps, p.1.length = m
  | [], _, h => h
  | d :: ds, ps, h => sms_lens (ds := ds) (ps := ps ++ [smsNext m d ps]) fun p hp => by
    rcases List.mem_append.mp hp with hp | hp
    · exact h p hp
    · rw [List.mem_singleton.mp hp]
      exact next_len h
theorem sms_vals {m : Nat} {N : Int} {xs : List Int} : ∀ {ds : List Deed} {ps : List Sm}, DsOk ps.length ds → (∀ d ∈ ds, d.1 ∈ sumW) → (∀ p ∈ ps, p.1.length = m) → (sms m ds ps).map (sval N xs) = vals N ds (ps.map (sval N xs))
  | [], _, _, _, _ => rfl
  | d :: ds, ps, ok, hs, h => by
    have ok0 : DeedOk ps.length d := by
      have := ok.each 0 d rfl
      rwa [Int.natCast_zero, Int.add_zero] at this
    show (sms m ds (ps ++ [smsNext m d ps])).map (sval N xs) = vals N ds (ps.map (sval N xs) ++ [dval N d (ps.map (sval N xs))])
    rw [sms_vals (ds := ds) ⟨fun k e hk => ?_⟩ (fun e he => hs e (List.mem_cons_of_mem _ he)) fun p hp => ?_, List.map_append, List.map_cons, List.map_nil, next_val ok0 (hs d List.mem_cons_self) h]
    · have := ok.each (k + 1) e hk
      rw [List.length_append, List.length_cons, List.length_nil]
      have e2 : (((ps.length + (0 + 1) : Nat) : Int) + (k : Int)) = (ps.length : Int) + ((k + 1 : Nat) : Int) := by omega
      rw [e2]
      exact this
    · rcases List.mem_append.mp hp with hp | hp
      · exact h p hp
      · rw [List.mem_singleton.mp hp]
        exact next_len h
theorem units_lens {m n : Nat} : ∀ p ∈ units m n, p.1.length = m := fun p hp => by
  obtain ⟨i, _, rfl⟩ := List.mem_map.mp hp
  exact uRow_len m i
theorem units_len (m n : Nat) : (units m n).length = n := by
  unfold units
  rw [List.length_map, List.length_range]
theorem all_sums {N : Int} {xs : List Int} {ds : List Deed} (hx : ∀ x ∈ xs, 0 ≤ x ∧ x < N) (ok : DsOk xs.length ds) (hs : ∀ d ∈ ds, d.1 ∈ sumW) : (sms xs.length ds (units xs.length xs.length)).map (sval N xs) = vals N ds xs := by
  rw [sms_vals (by rw [units_len]; exact ok) hs units_lens, units_vals hx]
/-! ### the law's sums -/
abbrev FAt (H : Hp) : List Addr → List Sm → Prop := Paired fun r p => H r = some (.lst ((pl p).map V.int))
theorem fa_ne {H : Hp} {r F : Addr} {p : Sm} {rs : List Addr} (h : H r = some (.lst ((pl p).map V.int))) (k : H F = some (.lst (rs.map V.ref))) : r ≠ F := by
  refine ne_of h k fun e => ?_
  have e2 := HO.lst.inj e
  unfold pl at e2
  rcases p with ⟨_ | ⟨x, xs⟩, c⟩ <;> rcases rs with _ | ⟨r, rs⟩ <;> simp at e2
theorem fa_put {H : Hp} {F : Addr} {rs rs2 : List Addr} {ps : List Sm} {o : HO} (h : FAt H rs ps) (k : H F = some (.lst (rs2.map V.ref))) : FAt (upd H F o) rs ps := awMap (fun r p e => by rw [upd_ne (fa_ne e k)]; exact e) h
theorem fa_same {H H' : Hp} {rs : List Addr} {ps : List Sm} (h : FAt H rs ps) (s : Same H H') : FAt H' rs ps := awMap (fun r p e => s _ _ e) h
theorem cutInit (xs : List V) (v : V) : cutV (xs ++ [v]) none (some (-1)) = xs := by
  have h1 : HT.sIx (xs ++ [v]).length 0 none = 0 := HT.sIx_none _ _
  have h2 : HT.sIx (xs ++ [v]).length (xs ++ [v]).length (some (-1)) = xs.length := by
    unfold HT.sIx
    simp
    omega
  unfold cutV
  rw [h1, h2]
  simp
theorem zip_pl {f : Int → Int → Int} {a b : Sm} (h : a.1.length = b.1.length) : List.zipWith f (pl a) (pl b) = List.zipWith f a.1 b.1 ++ [f a.2 b.2] := by
  unfold pl
  rw [List.zipWith_append h]
  rfl
def spSums : Sp := fun vs H Q _ => ∃ (D : Addr) (m : Nat) (rs : List Addr) (ds : List Deed), vs = [.int (m : Int), .ref D] ∧ 1 ≤ m ∧ m ≤ 3 ∧ H D = some (.tup (rs.map V.ref)) ∧ DsAt H rs ds ∧ DsOk m ds ∧ ds.length ≤ 8 ∧ (∀ d ∈ ds, d.1 ∈ sumW) ∧
  ∀ H' F fs, Same H H' → H' F = some (.lst (fs.map V.ref)) → FAt H' fs (sms m ds (units m m)) → Q (.ref F) H'
theorem zip_step {f : Int → Int → Int} {l k : List Int} {i : Nat} {a b : Int} (h : l[i]? = some a) (g : k[i]? = some b) : (List.zipWith f l k).take (i + 1) = (List.zipWith f l k).take i ++ [f a b] := by
  rw [List.take_add_one, List.getElem?_zipWith, h, g]
  rfl
theorem int_at {xs : List Int} {i : Nat} {x : V} (hx : (xs.map V.int)[i]? = some x) : ∃ y, xs[i]? = some y ∧ x = .int y := by
  rw [List.getElem?_map] at hx
  cases e : xs[i]? with
  | none => rw [e] at hx; cases hx
  | some y => rw [e] at hx; exact ⟨y, rfl, (Option.some.inj hx).symm⟩
theorem ok_ls {f : Addr} {fd : FuncData} {k : Nat} (F : Fun K "_law_sums" "_law_sums" s_law_sums f fd) (mr : mg "range" = none) (mi : mg "int" = none) (mz : mg "zip" = none) : FnOk P w K mg base CX0 (k + 1) f fd ["many", "deeds"] spSums := by
  refine F.ok sc_law_sums (fun vs H Q E h => ?_) (fun cdv A outer s H vs Q E hr h => ?_)
  · obtain ⟨D, m, rs, ds, rfl, _⟩ := h
    rfl
  · obtain ⟨D, m, rs, ds, rfl, m1, m3, eD, hd, hok, hl8, hsw, q⟩ := h
    refine ⟨_, pss_cons (ps_set (i := 2) sc_law_sums.nd rfl (.inr rfl) (pe_lst pa_nil))
      (pss_cons (ps_for PassesOwn.never rfl (pi_range1 (by rfl) mr (pa_cons (pv 0) pa_nil)) (pg_name (i := 3) sc_law_sums.nd rfl (.inr rfl))
        (pss_one (ps_expr (pe_bm PySem.F.plainAttrs_list PySem.F.slot_list_append PySem.F.type_list_append mt_append (pv 2) (pa_cons (pe_op op_cat
          (pe_lc (own := [("j", 9)]) (g := gName 9) (by rfl) sc_law_sums.nd (pi_range1 (by rfl) mr (pa_cons (pv 0) pa_nil)) (blkOk_by (own := [("j", 9)]) (N := N_law_sums) (sc := defScope s_law_sums) (by decide +kernel))
            (fun _ _ _ _ _ => pg_name (i := 9) sc_law_sums.nd rfl (Or.inl rfl)) (fun _ _ _ _ _ => pts_nil) (fun _ _ _ _ _ => pe_callTy call_int1 (by rfl) mi (by decide +kernel) (pa_cons (pe_cmpR op_eq (pv 3) (pv 9) (nomark _)) pa_nil)))
          (pe_lst (pa_cons pe_int pa_nil))) pa_nil)))))
      (pss_cons (ps_set (i := 4) sc_law_sums.nd rfl (.inl rfl) (pe_op op_rep (pe_lst (pa_cons pe_int pa_nil)) (pe_op op_add (pv 0) pe_int)))
      (pss_cons (ps_for PassesOwn.never rfl (pi_tup (pv 1)) (pg_name (i := 5) sc_law_sums.nd rfl (.inl rfl))
        (pss_cons (ps_set (i := 6) sc_law_sums.nd rfl (.inl rfl) (pe_op op_cat
          (pe_lc (own := [("number", 10)]) (g := gName 10) (by rfl) sc_law_sums.nd (pi_tup (pe_slice sl_tup (pv 5) (po_some pe_int) po_none)) (blkOk_by (own := [("number", 10)]) (N := N_law_sums) (sc := defScope s_law_sums) (by decide +kernel))
            (fun _ _ _ _ _ => pg_name (i := 10) sc_law_sums.nd rfl (Or.inl rfl)) (fun _ _ _ _ _ => pts_nil) (fun _ _ _ _ _ => pe_ix (r := rIxL K) ix_list (pv 2) (pv 10) (fun _ _ => rfl)))
          (pe_lst (pa_cons (pv 4) (pa_cons (pv 4) pa_nil)))))
        (pss_cons (ps_par (i := 7) (j := 8) rfl sc_law_sums.nd rfl rfl (by decide) rfl rfl (pa_cons (pe_ix ix_list (pv 6) pe_int (fun _ _ => rfl)) (pa_cons (pe_ix ix_list (pv 6) pe_int (fun _ _ => rfl)) pa_nil)) (by rfl))
        (pss_one (ps_if (pt_cmpR op_in_seq (pe_ix ix_tup (pv 5) pe_int (fun _ _ => rfl)) (pe_tup (pa_cons pe_str (pa_cons pe_str (pa_cons pe_str pa_nil)))) (by rfl))
          (pss_one (ps_expr (pe_bm PySem.F.plainAttrs_list PySem.F.slot_list_append PySem.F.type_list_append mt_append (pv 2) (pa_cons (pe_op op_cat (pe_op op_rep (pe_lst (pa_cons pe_int pa_nil)) (pv 0))
            (pe_lst (pa_cons (pe_dget (hu_of hr) (pe_disp (pps_cons pe_str pe_int (pps_cons pe_str pe_int (pps_cons pe_str (pe_un un_neg pe_int) pps_nil))) (by rfl) (by rfl) (fun z => by cases z) (by decide)) (pe_ix ix_tup (pv 5) pe_int (fun _ _ => rfl)) (fun _ _ => rfl)) pa_nil))) pa_nil))))
          (pss_one (ps_if (pt_cmpR op_in_seq (pe_ix ix_tup (pv 5) pe_int (fun _ _ => rfl)) (pe_tup (pa_cons pe_str (pa_cons pe_str pa_nil))) (by rfl))
            (pss_one (ps_expr (pe_bm PySem.F.plainAttrs_list PySem.F.slot_list_append PySem.F.type_list_append mt_append (pv 2) (pa_cons (pe_op op_cat
              (pe_lc (own := [("one", 11)]) (g := gName 11) (by rfl) sc_law_sums.nd (pi_list (pe_slice sl_list (pv 7) po_none (po_some (pe_un un_neg pe_int)))) (blkOk_by (own := [("one", 11)]) (N := N_law_sums) (sc := defScope s_law_sums) (by decide +kernel))
                (fun _ _ _ _ _ => pg_name (i := 11) sc_law_sums.nd rfl (Or.inl rfl)) (fun _ _ _ _ _ => pts_nil) (fun _ _ _ _ _ => pe_op op_sub pe_int (pv 11)))
              (pe_lst (pa_cons (pe_op op_sub (pe_op op_sub pe_int (pe_ix ix_list (pv 7) (pe_un un_neg pe_int) (fun _ _ => rfl))) (pe_callTy call_int1 (by rfl) mi (by decide +kernel) (pa_cons (pe_cmpR op_eq (pe_ix ix_tup (pv 5) pe_int (fun _ _ => rfl)) pe_str (nomark _)) pa_nil))) pa_nil))) pa_nil))))
            (pss_one (ps_if (pt_cmpR op_eq (pe_ix ix_tup (pv 5) pe_int (fun _ _ => rfl)) pe_str (nomark _))
              (pss_one (ps_expr (pe_bm PySem.F.plainAttrs_list PySem.F.slot_list_append PySem.F.type_list_append mt_append (pv 2) (pa_cons
                (pe_lc (own := [("one", 11)]) (g := gName 11) (by rfl) sc_law_sums.nd (pi_list (pv 7)) (blkOk_by (own := [("one", 11)]) (N := N_law_sums) (sc := defScope s_law_sums) (by decide +kernel))
                  (fun _ _ _ _ _ => pg_name (i := 11) sc_law_sums.nd rfl (Or.inl rfl)) (fun _ _ _ _ _ => pts_nil) (fun _ _ _ _ _ => pe_op op_add (pv 11) (pv 11))) pa_nil))))
              (pss_one (ps_if (pt_cmpR op_eq (pe_ix ix_tup (pv 5) pe_int (fun _ _ => rfl)) pe_str (nomark _))
                (pss_one (ps_expr (pe_bm PySem.F.plainAttrs_list PySem.F.slot_list_append PySem.F.type_list_append mt_append (pv 2) (pa_cons
                  (pe_lc (own := [("one", 11), ("other", 12)]) (g := gTup K 2 (gCons (gName 11) (gCons (gName 12) gNil))) (by rfl) sc_law_sums.nd (RZ.pi_zipA (by rfl) mz (pa_cons (pv 7) (pa_cons (pv 8) pa_nil))) (blkOk_by (own := [("one", 11), ("other", 12)]) (N := N_law_sums) (sc := defScope s_law_sums) (by decide +kernel))
                    (fun _ _ _ _ _ => pg_tup rfl (pgs_cons (pg_name (i := 11) sc_law_sums.nd rfl (.inl rfl)) (pgs_cons (pg_name (i := 12) sc_law_sums.nd rfl (.inl rfl)) pgs_nil))) (fun _ _ _ _ _ => pts_nil) (fun _ _ _ _ _ => pe_op op_add (pv 11) (pv 12))) pa_nil))))
                (pss_one (ps_expr (pe_bm PySem.F.plainAttrs_list PySem.F.slot_list_append PySem.F.type_list_append mt_append (pv 2) (pa_cons
                  (pe_lc (own := [("one", 11), ("other", 12)]) (g := gTup K 2 (gCons (gName 11) (gCons (gName 12) gNil))) (by rfl) sc_law_sums.nd (RZ.pi_zipA (by rfl) mz (pa_cons (pv 7) (pa_cons (pv 8) pa_nil))) (blkOk_by (own := [("one", 11), ("other", 12)]) (N := N_law_sums) (sc := defScope s_law_sums) (by decide +kernel))
                    (fun _ _ _ _ _ => pg_tup rfl (pgs_cons (pg_name (i := 11) sc_law_sums.nd rfl (.inl rfl)) (pgs_cons (pg_name (i := 12) sc_law_sums.nd rfl (.inl rfl)) pgs_nil))) (fun _ _ _ _ _ => pts_nil) (fun _ _ _ _ _ => pe_op op_sub (pv 11) (pv 12))) pa_nil)))))))))))))))
      (pss_one (ps_ret (pv 2)))))), ?_⟩
    refine ⟨Nat.zero_le _, fun Fd hF => ?_⟩
    have sF := same_new (o := .lst []) hF
    have keepF : ∀ H4 o, Same H H4 → Same H (upd H4 Fd o) := fun H4 o s4 b u e => by
      rw [upd_ne (ne_of_none e hF)]
      exact s4 b u e
    refine ⟨.int m, rfl, m, rfl, by omega, by omega, for_range (lo := 0) (n := m) (fun i σ H3 => ∃ y3 fs, σ = [some (.int (m : Int)), some (.ref D), some (.ref Fd), y3, none, none, none, none, none, none, none, none, none] ∧ H3 Fd = some (.lst (fs.map V.ref)) ∧ FAt H3 fs (units m i) ∧ Same H H3) ⟨none, [], rfl, upd_same, .nil, sF⟩ (fun i σ H3 hi hp => ?_) (fun σ H3 hp => ?_)⟩
    · obtain ⟨y3, fs, rfl, eF, hf, s3⟩ := hp
      refine ⟨.ref Fd, rfl, .inl ⟨rfl, _, .inl (.inl eF)⟩, ?_⟩
      refine ⟨.int m, rfl, m, rfl, by omega, by omega, fun M hM => ?_⟩
      refine lc_range (lo := 0) (n := m) (fun j H4 => H4 M = some (.lst (((List.range j).map fun (j : Nat) => if decide (V.int (0 + (i : Int)) = V.int (0 + (j : Int))) = true then (1 : Int) else 0).map V.int)) ∧ Same H3 H4) ⟨upd_same, same_new hM⟩ (fun j H4 hj hp => ?_) (fun H4 hp => ?_)
      · obtain ⟨eM, s4⟩ := hp
        refine ⟨rfl, .int (0 + i), rfl, .int (0 + j), rfl, rfl, .inr ⟨_, rfl, _, eM, ?_, ?_, ?_⟩⟩
        · rw [List.length_map, List.length_map, List.length_range]
          exact small1000 (by omega)
        · rw [upd_same, List.range_succ, List.map_append, List.map_append]
          rfl
        · intro b u e
          rw [upd_ne (ne_of_none e hM)]
          exact s4 b u e
      · obtain ⟨eM, s4⟩ := hp
        refine ⟨by show 1 ≤ sizeLine; decide, fun Z hZ => ?_⟩
        have sZ := same_new (o := .lst [.int 0]) hZ
        refine ⟨M, Z, _, _, rfl, rfl, sZ _ _ eM, upd_same, ?_, fun Y hY => ?_⟩
        · rw [List.length_map, List.length_map, List.length_range]
          exact Nat.le_of_lt (small1000 (by show m + 1 ≤ 1000; omega))
        · have sA := (s4.trans sZ).trans (same_new (o := .lst (((List.range m).map fun (j : Nat) => if decide (V.int (0 + (i : Int)) = V.int (0 + (j : Int))) = true then (1 : Int) else 0).map V.int ++ [V.int 0])) hY)
          have eF4 := sA _ _ eF
          refine ⟨Fd, _, _, rfl, rfl, eF4, ?_, some (.int (0 + i)), fs ++ [Y], rfl, ?_, ?_, keepF _ _ (s3.trans sA)⟩
          · rw [List.length_map, awLen hf, units_len]
            exact small1000 (by omega)
          · rw [upd_same, List.map_append]
            rfl
          · have e1 : units m (i + 1) = units m i ++ [(uRow m i, 0)] := by
              unfold units
              rw [List.range_succ, List.map_append]
              rfl
            rw [e1]
            refine fa_put (awSnoc (F := fun r p => upd (upd H4 Z (.lst [.int 0])) Y (.lst (((List.range m).map fun (j : Nat) => if decide (V.int (0 + (i : Int)) = V.int (0 + (j : Int))) = true then (1 : Int) else 0).map V.int ++ [V.int 0])) r = some (.lst ((pl p).map V.int))) ?_ (fa_same hf sA)) eF4
            rw [upd_same]
            unfold pl
            rw [List.map_append]
            rfl
    · obtain ⟨y3, fs, rfl, eF, hf, s3⟩ := hp
      refine ⟨by show 1 ≤ sizeLine; decide, fun Z0 hZ0 => ?_⟩
      have sZ0 := same_new (o := .lst [.int 0]) hZ0
      refine ⟨.int m, rfl, m, 1, rfl, rfl, Z0, _, _, rfl, rfl, upd_same, by omega, by omega, ?_, fun Z hZ => ?_⟩
      · exact Nat.le_of_lt (small1000 (by show 1 * ((m : Int) + 1).toNat ≤ 1000; omega))
      have sZ := same_new (o := .lst (List.replicate ((m : Int) + 1).toNat [V.int 0]).flatten) hZ
      have eZ : (List.replicate ((m : Int) + 1).toNat [V.int 0]).flatten = (pl (zeroS m)).map V.int := by
        rw [show ((m : Int) + 1).toNat = m + 1 by omega]
        unfold pl zeroS
        rw [List.map_append, List.map_replicate]
        have hf2 : ∀ n : Nat, (List.replicate n [V.int 0]).flatten = List.replicate n (V.int 0) := fun n => by
          induction n with
          | zero => rfl
          | succ n ih => rw [List.replicate_succ, List.flatten_cons, ih]; rfl
        rw [hf2, List.replicate_succ']
        rfl
      have eZ1 : upd (upd H3 Z0 (.lst [.int 0])) Z (.lst (List.replicate ((m : Int) + 1).toNat [V.int 0]).flatten) Z = some (.lst ((pl (zeroS m)).map V.int)) := by
        rw [upd_same, eZ]
      have sA := sZ0.trans sZ
      have s4 := s3.trans sA
      refine ⟨.ref D, rfl, D, rfl, ⟨_, SqT.of (s4 _ _ eD)⟩, for_tup (K := K) (a := D) (xs := rs.map V.ref) (fun i σ H5 => ∃ y5 y6 y7 y8 fs, σ = [some (.int (m : Int)), some (.ref D), some (.ref Fd), y3, some (.ref Z), y5, y6, y7, y8, none, none, none, none] ∧ H5 Fd = some (.lst (fs.map V.ref)) ∧ FAt H5 fs (sms m (ds.take i) (units m m)) ∧ H5 Z = some (.lst ((pl (zeroS m)).map V.int)) ∧ Same H H5)
        ⟨none, none, none, none, fs, rfl, sA _ _ eF, fa_same hf sA, eZ1, s4⟩ (fun i σ H5 _ hp => ?_) (fun i x σ H5 hx hp => ?_) (fun σ H5 hp => ?_)⟩
      · obtain ⟨_, _, _, _, _, _, _, _, _, s5⟩ := hp
        exact SqT.of (s5 _ _ eD)
      · obtain ⟨y5, y6, y7, y8, fs, rfl, eF, hf, eZ, s5⟩ := hp
        have hi : i < rs.length := by
          have := (List.getElem?_eq_some_iff.mp hx).1
          rwa [List.length_map] at this
        have hx' : x = .ref rs[i] := by
          rw [List.getElem?_map, List.getElem?_eq_getElem hi] at hx
          exact (Option.some.inj hx).symm
        subst hx'
        obtain ⟨d, hd1, hd2⟩ := awGet hd (List.getElem?_eq_getElem hi)
        have h2 : i < ds.length := by
          rw [← awLen hd]
          exact hi
        have hw := hsw d (List.mem_of_getElem? hd1)
        generalize hps : sms m (ds.take i) (units m m) = ps at hf
        have psl : ps.length = m + i := by
          rw [← hps, sms_len, units_len, List.length_take, Nat.min_eq_left (Nat.le_of_lt h2)]
        have lens : ∀ p ∈ ps, p.1.length = m := by
          rw [← hps]
          exact sms_lens units_lens
        have okd : DeedOk ps.length d := by
          have := hok.each i d hd1
          rw [psl]
          have e : ((m + i : Nat) : Int) = (m : Int) + (i : Int) := by omega
          rw [e]
          exact this
        have fsl : fs.length = m + i := by rw [awLen hf, psl]
        have ed := s5 _ _ hd2
        -- handed
        refine ⟨.ref rs[i], rfl, 1, rfl, rs[i], _, rfl, SqT.of ed, notWhole _ _, fun T hT => ?_⟩
        rw [show cutV (dV d) (some 1) none = d.2.map V.int from cutTail _ _]
        have sT := same_new (o := .tup (d.2.map V.int)) hT
        refine ⟨T, rfl, ⟨_, SqT.of upd_same⟩, fun M hM => ?_⟩
        refine lc_tup (K := K) (a := T) (xs := d.2.map V.int) (fun j H6 => H6 M = some (.lst ((d.2.take j).map fun q => V.ref (fs.getD q.toNat 0))) ∧ Same (upd H5 T (.tup (d.2.map V.int))) H6) ⟨upd_same, same_new hM⟩ (fun j H6 _ hp => SqT.of (hp.2 _ _ upd_same)) (fun j x H6 hx hp => ?_) (fun H6 hp => ?_)
        · obtain ⟨eM, s6⟩ := hp
          obtain ⟨n, hn, rfl⟩ := int_at hx
          obtain ⟨n0, n1⟩ := okd.ahead n (List.mem_of_getElem? hn)
          refine ⟨rfl, .ref Fd, rfl, .int n, rfl, Fd, _, n, .ref (fs.getD n.toNat 0), rfl, rfl, .inl (.inl (s6 _ _ (sT _ _ eF))), ?_, _, eM, ?_, ?_, ?_⟩
          · obtain ⟨t, rfl⟩ := Int.eq_ofNat_of_zero_le n0
            have ht : t < fs.length := by omega
            apply atI_nat
            rw [List.getElem?_map, List.getElem?_eq_getElem ht, Int.toNat_natCast, List.getD_eq_getElem?_getD, List.getElem?_eq_getElem ht]
            rfl
          · have := (fw_short _ okd.word).2.2
            have l2 : (d.2.length : Int) ≤ 2 := this
            rw [List.length_map, List.length_take]
            exact small1000 (by omega)
          · rw [upd_same, List.take_add_one, hn, List.map_append]
            rfl
          · intro b u e
            rw [upd_ne (ne_of_none e hM)]
            exact s6 b u e
        obtain ⟨eM, s6⟩ := hp
        rw [List.length_map, List.take_length] at eM
        refine ⟨.ref Z, rfl, .ref Z, rfl, by show 2 ≤ sizeLine; decide, fun Z2 hZ2 => ?_⟩
        have sZ2 := same_new (o := .lst [.ref Z, .ref Z]) hZ2
        have l2 : (d.2.length : Int) ≤ 2 := (fw_short _ okd.word).2.2
        refine ⟨M, Z2, _, _, rfl, rfl, sZ2 _ _ eM, upd_same, ?_, fun U hU => ?_⟩
        · rw [List.length_map]
          exact Nat.le_of_lt (small1000 (by show d.2.length + 2 ≤ 1000; omega))
        have sU := same_new (o := .lst ((d.2.map fun q => V.ref (fs.getD q.toNat 0)) ++ [.ref Z, .ref Z])) hU
        have s7 : Same H5 (upd (upd H6 Z2 (.lst [.ref Z, .ref Z])) U (.lst ((d.2.map fun q => V.ref (fs.getD q.toNat 0)) ++ [.ref Z, .ref Z]))) := ((sT.trans s6).trans sZ2).trans sU
        have eU : upd (upd H6 Z2 (.lst [.ref Z, .ref Z])) U (.lst ((d.2.map fun q => V.ref (fs.getD q.toNat 0)) ++ [.ref Z, .ref Z])) U = some (.lst ((d.2.map fun q => V.ref (fs.getD q.toNat 0)) ++ [.ref Z, .ref Z])) := upd_same
        generalize upd (upd H6 Z2 (.lst [.ref Z, .ref Z])) U (.lst ((d.2.map fun q => V.ref (fs.getD q.toNat 0)) ++ [.ref Z, .ref Z])) = H7 at s7 eU
        have pick : ∀ k : Nat, k < 2 → ∃ A, atI ((d.2.map fun q => V.ref (fs.getD q.toNat 0)) ++ [V.ref Z, .ref Z]) (k : Int) = some (.ref A) ∧ H7 A = some (.lst ((pl (sArg m d ps k)).map V.int)) := by
          intro k hk
          by_cases hk2 : k < d.2.length
          · have hg := List.getElem?_eq_getElem hk2
            obtain ⟨n0, n1⟩ := okd.ahead _ (List.getElem_mem hk2)
            have ht : (d.2[k]).toNat < ps.length := by omega
            obtain ⟨r, hr1, hr2⟩ := awGet2 hf (List.getElem?_eq_getElem ht)
            refine ⟨fs.getD (d.2[k]).toNat 0, atI_nat ?_, ?_⟩
            · rw [List.getElem?_append_left (by rw [List.length_map]; exact hk2), List.getElem?_map, hg]
              rfl
            · have e1 : sArg m d ps k = ps[(d.2[k]).toNat] := by
                unfold sArg
                rw [hg]
                show ps.getD (d.2[k]).toNat (zeroS m) = _
                rw [List.getD_eq_getElem?_getD, List.getElem?_eq_getElem ht]
                rfl
              rw [e1, List.getD_eq_getElem?_getD, hr1]
              exact s7 _ _ hr2
          · have hn : d.2[k]? = none := List.getElem?_eq_none (by omega)
            refine ⟨Z, atI_nat ?_, ?_⟩
            · rw [List.getElem?_append_right (by rw [List.length_map]; omega), List.length_map]
              have : k - d.2.length = 0 ∨ k - d.2.length = 1 := by omega
              rcases this with e | e <;> rw [e] <;> rfl
            · unfold sArg
              rw [hn]
              exact s7 _ _ eZ
        obtain ⟨A1, hA1, eA⟩ := pick 0 (by decide)
        obtain ⟨B1, hB1, eB⟩ := pick 1 (by decide)
        refine ⟨.ref U, rfl, U, _, 0, .ref A1, rfl, rfl, .inl (.inl eU), hA1, .ref U, rfl, U, _, 1, .ref B1, rfl, rfl, .inl (.inl eU), hB1, .ref A1, .ref B1, rfl, ?_⟩
        have eF7 := s7 _ _ eF
        have ed7 := s7 _ _ ed
        have fin : ∀ (H8 : Hp) (Y : Addr) (p : Sm), Same H7 H8 → H8 Y = some (.lst ((pl p).map V.int)) → p = smsNext m d ps →
            ∃ y5 y6 y7 y8 fs2, [some (V.int (m : Int)), some (.ref D), some (.ref Fd), y3, some (.ref Z), some (.ref rs[i]), some (.ref U), some (.ref A1), some (.ref B1), none, none, none, none] = [some (.int (m : Int)), some (.ref D), some (.ref Fd), y3, some (.ref Z), y5, y6, y7, y8, none, none, none, none] ∧ upd H8 Fd (.lst (fs.map V.ref ++ [V.ref Y])) Fd = some (.lst (fs2.map V.ref)) ∧ FAt (upd H8 Fd (.lst (fs.map V.ref ++ [V.ref Y]))) fs2 (sms m (ds.take (i + 1)) (units m m)) ∧ upd H8 Fd (.lst (fs.map V.ref ++ [V.ref Y])) Z = some (.lst ((pl (zeroS m)).map V.int)) ∧ Same H (upd H8 Fd (.lst (fs.map V.ref ++ [V.ref Y]))) := by
          intro H8 Y p s8 eY hp
          have eF8 := s8 _ _ eF7
          refine ⟨_, _, _, _, fs ++ [Y], rfl, ?_, ?_, ?_, keepF _ _ ((s5.trans s7).trans s8)⟩
          · rw [upd_same, List.map_append]
            rfl
          · rw [sms_next hd1, hps, ← hp]
            exact fa_put (awSnoc (F := fun r p => H8 r = some (.lst ((pl p).map V.int))) eY (fa_same hf (s7.trans s8))) eF8
          · have eZ8 := s8 _ _ (s7 _ _ eZ)
            rw [upd_ne (fa_ne eZ8 eF8)]
            exact eZ8
        have small : (fs.map V.ref).length < sizeLine := by
          rw [List.length_map]
          exact small1000 (by omega)
        have la := sArg_len (d := d) (k := 0) lens
        have lb := sArg_len (d := d) (k := 1) lens
        have hnx : smsNext m d ps = dsum m d.1 (sArg m d ps 0) (sArg m d ps 1) := rfl
        rw [hnx] at fin
        clear hnx
        generalize sArg m d ps 0 = pa at eA la fin
        generalize sArg m d ps 1 = pb at eB lb fin
        refine ⟨.ref rs[i], rfl, rs[i], _, 0, .str d.1, rfl, rfl, SqT.of ed7, dv0 d, by show 3 ≤ sizeLine; decide, fun T1 hT1 => ?_⟩
        have sT1 := same_new (o := .tup [.str "none", .str "one", .str "all"]) hT1
        refine ⟨T1, _, rfl, .inr (SqT.of upd_same), rfl, rfl, _, rfl, ite2 (fun e => ?_) (fun e => ?_)⟩
        · have hm : d.1 ∈ (["none", "one", "all"] : List Str) := of_decide_eq_true ((inS d.1 ["none", "one", "all"]).symm.trans e)
          refine ⟨.ref Fd, rfl, .inl ⟨rfl, _, .inl (.inl (sT1 _ _ eF7))⟩, by show 1 ≤ sizeLine; decide, fun L hL => ?_⟩
          have sL := same_new (o := .lst [.int 0]) hL
          refine ⟨.int m, rfl, L, _, _, rfl, rfl, upd_same, by omega, by omega, Nat.le_of_lt (small1000 (by show 1 * ((m : Int)).toNat ≤ 1000; omega)), fun L2 hL2 => ?_⟩
          have eR : (List.replicate (m : Int).toNat [V.int 0]).flatten = (List.replicate m (0 : Int)).map V.int := by
            rw [Int.toNat_natCast, List.map_replicate]
            have hf2 : ∀ n : Nat, (List.replicate n [V.int 0]).flatten = List.replicate n (V.int 0) := fun n => by
              induction n with
              | zero => rfl
              | succ n ih => rw [List.replicate_succ, List.flatten_cons, ih]; rfl
            exact hf2 m
          rw [eR]
          have sL2 := same_new (o := .lst ((List.replicate m (0 : Int)).map V.int)) hL2
          have sa := (sT1.trans sL).trans sL2
          intro p hp
          refine ⟨1, rfl, upd_same, [(Sum.inr "none", .int 0), (Sum.inr "one", .int 1), (Sum.inr "all", .int (-1))], rfl, (by show 3 ≤ 15; decide), .ref rs[i], rfl, ?_⟩
          rw [upd_upd]
          have sp := same_new (o := .dK (mergeK [] [(Sum.inr "none", .int 0), (Sum.inr "one", .int 1), (Sum.inr "all", .int (-1))])) hp
          refine ⟨rs[i], _, 0, .str d.1, rfl, rfl, SqT.of (sp _ _ (sa _ _ ed7)), dv0 d, p, ?_⟩
          have e8 : upd (upd (upd (upd H7 T1 (.tup [.str "none", .str "one", .str "all"])) L (.lst [.int 0])) L2 (.lst ((List.replicate m (0 : Int)).map V.int))) p (.dK (mergeK [] [(Sum.inr "none", .int 0), (Sum.inr "one", .int 1), (Sum.inr "all", .int (-1))])) p = _ := upd_same
          have eL2 := sp _ _ (show upd (upd (upd H7 T1 (.tup [.str "none", .str "one", .str "all"])) L (.lst [.int 0])) L2 (.lst ((List.replicate m (0 : Int)).map V.int)) L2 = _ from upd_same)
          have sb := sa.trans sp
          generalize upd (upd (upd (upd H7 T1 (.tup [.str "none", .str "one", .str "all"])) L (.lst [.int 0])) L2 (.lst ((List.replicate m (0 : Int)).map V.int))) p (.dK (mergeK [] [(Sum.inr "none", .int 0), (Sum.inr "one", .int 1), (Sum.inr "all", .int (-1))])) = H8 at eL2 sb e8
          have go : ∀ c : Int, (List.replicate m 0, c) = dsum m d.1 pa pb → ∀ C, H8 C = none → ∀ Y, upd H8 C (.lst [.int c]) Y = none → _ := fun c hc C hC Y hY => fin (upd (upd H8 C (.lst [.int c])) Y (.lst ((List.replicate m (0 : Int)).map V.int ++ [.int c]))) Y _ ((sb.trans (same_new hC)).trans (same_new hY)) (by
            rw [upd_same]
            unfold pl
            rw [List.map_append]
            rfl) hc
          have keepC : ∀ c : Int, ∀ C, H8 C = none → upd H8 C (.lst [.int c]) L2 = some (.lst ((List.replicate m (0 : Int)).map V.int)) := fun c C hC => same_new hC _ _ eL2
          have keepF2 : ∀ c : Int, ∀ C, H8 C = none → ∀ Y, upd H8 C (.lst [.int c]) Y = none → upd (upd H8 C (.lst [.int c])) Y (.lst ((List.replicate m (0 : Int)).map V.int ++ [.int c])) Fd = some (.lst (fs.map V.ref)) := fun c C hC Y hY => same_new hY _ _ (same_new hC _ _ (sb _ _ eF7))
          have lenL : ((List.replicate m (0 : Int)).map V.int).length + 1 ≤ sizeLine := by
            rw [List.length_map, List.length_replicate]
            exact Nat.le_of_lt (small1000 (by omega))
          simp only [List.mem_cons, List.not_mem_nil, or_false] at hm
          rcases hm with hm | hm | hm
          · rw [hm]
            refine ⟨.int 0, rfl, dget_at (k := Sum.inr "none") e8 rfl, by show 1 ≤ sizeLine; decide, fun C hC => ⟨L2, C, _, _, rfl, rfl, keepC _ C hC, upd_same, lenL, fun Y hY => ⟨Fd, _, _, rfl, rfl, keepF2 _ C hC Y hY, small, go 0 (by rw [hm]; rfl) C hC Y hY⟩⟩⟩
          · rw [hm]
            refine ⟨.int 1, rfl, dget_at (k := Sum.inr "one") e8 rfl, by show 1 ≤ sizeLine; decide, fun C hC => ⟨L2, C, _, _, rfl, rfl, keepC _ C hC, upd_same, lenL, fun Y hY => ⟨Fd, _, _, rfl, rfl, keepF2 _ C hC Y hY, small, go 1 (by rw [hm]; rfl) C hC Y hY⟩⟩⟩
          · rw [hm]
            refine ⟨.int (-1), rfl, dget_at (k := Sum.inr "all") e8 rfl, by show 1 ≤ sizeLine; decide, fun C hC => ⟨L2, C, _, _, rfl, rfl, keepC _ C hC, upd_same, lenL, fun Y hY => ⟨Fd, _, _, rfl, rfl, keepF2 _ C hC Y hY, small, go (-1) (by rw [hm]; rfl) C hC Y hY⟩⟩⟩
        have hn : ¬ d.1 ∈ (["none", "one", "all"] : List Str) := fun z => e ((inS d.1 ["none", "one", "all"]).trans (decide_eq_true z))
        simp only [List.mem_cons, List.not_mem_nil, or_false, not_or] at hn
        obtain ⟨n1, n2, n3⟩ := hn
        clear e
        have sb := sT1
        generalize upd H7 T1 (.tup [.str "none", .str "one", .str "all"]) = H8 at sb
        clear sT1
        refine ⟨.ref rs[i], rfl, rs[i], _, 0, .str d.1, rfl, rfl, SqT.of (sb _ _ ed7), dv0 d, by show 2 ≤ sizeLine; decide, fun T2 hT2 => ?_⟩
        have sT2 := sb.trans (same_new (o := .tup [.str "neg", .str "not"]) hT2)
        refine ⟨T2, _, rfl, .inr (SqT.of upd_same), rfl, rfl, _, rfl, ite2 (fun e => ?_) (fun e => ?_)⟩
        · have hm : d.1 ∈ (["neg", "not"] : List Str) := of_decide_eq_true ((inS d.1 ["neg", "not"]).symm.trans e)
          have sc := sT2
          generalize upd H8 T2 (.tup [.str "neg", .str "not"]) = H9 at sc
          refine ⟨.ref Fd, rfl, .inl ⟨rfl, _, .inl (.inl (sc _ _ eF7))⟩, .ref A1, rfl, 1, rfl, -1, rfl, A1, _, rfl, .inl (.inl (sc _ _ eA)), fun C hC => ?_⟩
          have eC : cutV ((pl pa).map V.int) none (some (-1)) = pa.1.map V.int := by
            unfold pl
            rw [List.map_append]
            exact cutInit _ _
          rw [eC]
          have sC := same_new (o := .lst (pa.1.map V.int)) hC
          refine ⟨C, rfl, ⟨_, .inl (.inl upd_same)⟩, fun L hL => ?_⟩
          refine lc_list (K := K) (a := C) (xs := pa.1.map V.int) (fun j H10 => H10 L = some (.lst (((pa.1.take j).map (0 - ·)).map V.int)) ∧ Same (upd H9 C (.lst (pa.1.map V.int))) H10) ⟨upd_same, same_new hL⟩ (fun j H10 _ hp => .inl (.inl (hp.2 _ _ upd_same))) (fun j x H10 hx hp => ?_) (fun H10 hp => ?_)
          · obtain ⟨eL, s10⟩ := hp
            obtain ⟨n, hn, rfl⟩ := int_at hx
            refine ⟨rfl, .int n, rfl, 0, n, rfl, rfl, _, eL, ?_, ?_, ?_⟩
            · rw [List.length_map, List.length_map, List.length_take]
              exact small1000 (by omega)
            · rw [upd_same, List.take_add_one, hn, List.map_append, List.map_append]
              rfl
            · intro b u e
              rw [upd_ne (ne_of_none e hL)]
              exact s10 b u e
          obtain ⟨eL, s10⟩ := hp
          rw [List.length_map, List.take_length] at eL
          have sd := (sc.trans sC).trans s10
          have last : atI ((pl pa).map V.int) (-1) = some (.int pa.2) := by
            unfold pl
            rw [List.map_append]
            exact atI_last _ _
          refine ⟨.ref A1, rfl, 1, rfl, A1, _, -1, .int pa.2, rfl, rfl, .inl (.inl (sd _ _ eA)), last, 0, pa.2, rfl, rfl, .ref rs[i], rfl, rs[i], _, 0, .str d.1, rfl, rfl, SqT.of (sd _ _ ed7), dv0 d, rfl, .inr ⟨_, rfl, ?_⟩⟩
          refine ⟨_, _, rfl, rfl, by show 1 ≤ sizeLine; decide, fun G hG => ?_⟩
          have sG := same_new (o := .lst [.int (0 - pa.2 - (if decide (V.str d.1 = V.str "not") = true then 1 else 0))]) hG
          refine ⟨L, G, _, _, rfl, rfl, sG _ _ eL, upd_same, ?_, fun Y hY => ?_⟩
          · rw [List.length_map, List.length_map]
            exact Nat.le_of_lt (small1000 (by show pa.1.length + 1 ≤ 1000; omega))
          have sY := same_new (o := .lst ((pa.1.map (0 - ·)).map V.int ++ [.int (0 - pa.2 - (if decide (V.str d.1 = V.str "not") = true then 1 else 0))])) hY
          refine ⟨Fd, _, _, rfl, rfl, sY _ _ (sG _ _ (sd _ _ eF7)), small, fin _ Y (pa.1.map (0 - ·), 0 - pa.2 - (if decide (V.str d.1 = V.str "not") = true then 1 else 0)) ((sd.trans sG).trans sY) ?_ ?_⟩
          · rw [upd_same]
            unfold pl
            rw [List.map_append]
            rfl
          · simp only [List.mem_cons, List.not_mem_nil, or_false] at hm
            rcases hm with hm | hm <;> rw [hm] <;> rfl
        have hn : ¬ d.1 ∈ (["neg", "not"] : List Str) := fun z => e ((inS d.1 ["neg", "not"]).trans (decide_eq_true z))
        simp only [List.mem_cons, List.not_mem_nil, or_false, not_or] at hn
        obtain ⟨n4, n5⟩ := hn
        clear e
        have sc := sT2
        generalize upd H8 T2 (.tup [.str "neg", .str "not"]) = H9 at sc
        clear sT2
        refine ⟨.ref rs[i], rfl, rs[i], _, 0, .str d.1, rfl, rfl, SqT.of (sc _ _ ed7), dv0 d, rfl, _, rfl, ite2 (fun e => ?_) (fun n6 => ?_)⟩
        · have hm := strEq e
          refine ⟨.ref Fd, rfl, .inl ⟨rfl, _, .inl (.inl (sc _ _ eF7))⟩, .ref A1, rfl, A1, rfl, ⟨_, .inl (.inl (sc _ _ eA))⟩, fun L hL => ?_⟩
          refine lc_list (K := K) (a := A1) (xs := (pl pa).map V.int) (fun j H10 => H10 L = some (.lst ((((pl pa).take j).map (fun z => z + z)).map V.int)) ∧ Same H9 H10) ⟨upd_same, same_new hL⟩ (fun j H10 _ hp => .inl (.inl (hp.2 _ _ (sc _ _ eA)))) (fun j x H10 hx hp => ?_) (fun H10 hp => ?_)
          · obtain ⟨eL, s10⟩ := hp
            obtain ⟨n, hn, rfl⟩ := int_at hx
            have hj := (List.getElem?_eq_some_iff.mp hn).1
            refine ⟨rfl, .int n, rfl, .int n, rfl, n, n, rfl, rfl, _, eL, ?_, ?_, ?_⟩
            · rw [List.length_map, List.length_map, List.length_take]
              unfold pl at hj ⊢
              rw [List.length_append, la] at hj ⊢
              exact small1000 (by simp; omega)
            · rw [upd_same, List.take_add_one, hn, List.map_append, List.map_append]
              rfl
            · intro b u e
              rw [upd_ne (ne_of_none e hL)]
              exact s10 b u e
          obtain ⟨eL, s10⟩ := hp
          rw [List.length_map, List.take_length] at eL
          refine ⟨Fd, _, _, rfl, rfl, s10 _ _ (sc _ _ eF7), small, fin _ L (pa.1.map (fun z => z + z), pa.2 + pa.2) (sc.trans s10) ?_ ?_⟩
          · rw [eL]
            unfold pl
            rw [List.map_append]
            rfl
          · rw [hm]
            rfl
        have n6' := strNe n6
        clear n6
        have zl : ((pl pa).map V.int).length = ((pl pb).map V.int).length := by
          unfold pl
          simp [la, lb]
        have zn : ((pl pa).map V.int).length = m + 1 := by
          unfold pl
          simp [la]
        refine ⟨.ref rs[i], rfl, rs[i], _, 0, .str d.1, rfl, rfl, SqT.of (sc _ _ ed7), dv0 d, rfl, _, rfl, ite2 (fun e => ?_) (fun n7 => ?_)⟩
        · have hm := strEq e
          refine ⟨.ref Fd, rfl, .inl ⟨rfl, _, .inl (.inl (sc _ _ eF7))⟩, .ref A1, rfl, .ref B1, rfl, A1, B1, _, _, rfl, .inl ⟨.inl (.inl (sc _ _ eA)), .inl (.inl (sc _ _ eB)), fun L hL => ?_⟩⟩
          refine lc_it (walk_zip (K := K) (a := A1) (b := B1) (xs := (pl pa).map V.int) (ys := (pl pb).map V.int) (n := m + 1) (by rw [← zl, zn, Nat.min_self])) (fun j H10 => H10 L = some (.lst (((List.zipWith (· + ·) (pl pa) (pl pb)).take j).map V.int)) ∧ Same H9 H10) ⟨upd_same, same_new hL⟩ (fun j H10 _ hp => ⟨.inl (.inl (hp.2 _ _ (sc _ _ eA))), .inl (.inl (hp.2 _ _ (sc _ _ eB)))⟩) (fun j x H10 H11 hj hp hy => ?_) (fun H10 hp => ?_)
          · obtain ⟨eL, s10⟩ := hp
            obtain ⟨T, x1, x2, rfl, hT, rfl, g1, g2⟩ := hy
            obtain ⟨n, hn, rfl⟩ := int_at g1
            obtain ⟨n', hn', rfl⟩ := int_at g2
            have sT := same_new (o := .tup [.int n, .int n']) hT
            refine ⟨T, [.int n, .int n'], rfl, .inl (.inl upd_same), rfl, .int n, [.int n'], rfl, .int n', [], rfl, rfl, rfl, ?_⟩
            refine ⟨.int n, rfl, .int n', rfl, n, n', rfl, rfl, _, sT _ _ eL, ?_, ?_, ?_⟩
            · rw [List.length_map, List.length_take]
              exact small1000 (by omega)
            · rw [upd_same, zip_step hn hn', List.map_append]
              rfl
            · intro b u e
              rw [upd_ne (ne_of_none e hL)]
              exact sT b u (s10 b u e)
          obtain ⟨eL, s10⟩ := hp
          have e3 : (List.zipWith (· + ·) (pl pa) (pl pb)).take (m + 1) = pl (List.zipWith (· + ·) pa.1 pb.1, pa.2 + pb.2) := by
            rw [zip_pl (by omega)]
            apply List.take_of_length_le
            simp [la, lb]
          rw [e3] at eL
          refine ⟨Fd, _, _, rfl, rfl, s10 _ _ (sc _ _ eF7), small, fin _ L _ (sc.trans s10) eL ?_⟩
          rw [hm]
          rfl
        · have n7' := strNe n7
          have hm : d.1 = "sub" := by
            simp only [sumW, List.mem_cons, List.not_mem_nil, or_false] at hw
            rcases hw with h | h | h | h | h | h | h | h
            · exact absurd h n1
            · exact absurd h n2
            · exact absurd h n3
            · exact absurd h n4
            · exact absurd h n5
            · exact absurd h n6'
            · exact absurd h n7'
            · exact h
          refine ⟨.ref Fd, rfl, .inl ⟨rfl, _, .inl (.inl (sc _ _ eF7))⟩, .ref A1, rfl, .ref B1, rfl, A1, B1, _, _, rfl, .inl ⟨.inl (.inl (sc _ _ eA)), .inl (.inl (sc _ _ eB)), fun L hL => ?_⟩⟩
          refine lc_it (walk_zip (K := K) (a := A1) (b := B1) (xs := (pl pa).map V.int) (ys := (pl pb).map V.int) (n := m + 1) (by rw [← zl, zn, Nat.min_self])) (fun j H10 => H10 L = some (.lst (((List.zipWith (· - ·) (pl pa) (pl pb)).take j).map V.int)) ∧ Same H9 H10) ⟨upd_same, same_new hL⟩ (fun j H10 _ hp => ⟨.inl (.inl (hp.2 _ _ (sc _ _ eA))), .inl (.inl (hp.2 _ _ (sc _ _ eB)))⟩) (fun j x H10 H11 hj hp hy => ?_) (fun H10 hp => ?_)
          · obtain ⟨eL, s10⟩ := hp
            obtain ⟨T, x1, x2, rfl, hT, rfl, g1, g2⟩ := hy
            obtain ⟨n, hn, rfl⟩ := int_at g1
            obtain ⟨n', hn', rfl⟩ := int_at g2
            have sT := same_new (o := .tup [.int n, .int n']) hT
            refine ⟨T, [.int n, .int n'], rfl, .inl (.inl upd_same), rfl, .int n, [.int n'], rfl, .int n', [], rfl, rfl, rfl, ?_⟩
            refine ⟨.int n, rfl, .int n', rfl, n, n', rfl, rfl, _, sT _ _ eL, ?_, ?_, ?_⟩
            · rw [List.length_map, List.length_take]
              exact small1000 (by omega)
            · rw [upd_same, zip_step hn hn', List.map_append]
              rfl
            · intro b u e
              rw [upd_ne (ne_of_none e hL)]
              exact sT b u (s10 b u e)
          obtain ⟨eL, s10⟩ := hp
          have e3 : (List.zipWith (· - ·) (pl pa) (pl pb)).take (m + 1) = pl (List.zipWith (· - ·) pa.1 pb.1, pa.2 - pb.2) := by
            rw [zip_pl (by omega)]
            apply List.take_of_length_le
            simp [la, lb]
          rw [e3] at eL
          refine ⟨Fd, _, _, rfl, rfl, s10 _ _ (sc _ _ eF7), small, fin _ L _ (sc.trans s10) eL ?_⟩
          rw [hm]
          rfl
      · obtain ⟨y5, y6, y7, y8, fs, rfl, eF, hf, eZ, s5⟩ := hp
        rw [List.length_map, awLen hd, List.take_length] at hf
        exact ⟨.ref Fd, rfl, q _ Fd fs s5 eF hf⟩
/-! ### the law -/
theorem law_run {fa fWe fDr fCh fTo fWo fSu fVa fWt : Addr} {fd fdWe fdDr fdCh fdTo fdWo fdSu fdVa fdWt : FuncData} {s : Shared} {a : Addr} {ns : List Int} {H : Hp} (F : Fun K "law" "law" s_law fa fd) (bL : Binds K fd ["script"] [])
    (GW : FnOk P w K mg base CX0 1 fWe fdWe ["script"] (spWell K)) (kW : PySem.W.keepIn K (.ref fWe) = true) (bW : Binds K fdWe ["script"] []) (gW : mg "_law_well" = some (.ref fWe))
    (GD : FnOk P w K mg base CX0 1 fDr fdDr ["well", "many"] spDraw) (kD : PySem.W.keepIn K (.ref fDr) = true) (bD : Binds K fdDr ["well", "many"] []) (gD : mg "_law_draw" = some (.ref fDr))
    (GC : FnOk P w K mg base CX0 2 fCh fdCh ["well", "many"] spCh) (kC : PySem.W.keepIn K (.ref fCh) = true) (bC : Binds K fdCh ["well", "many"] []) (gC : mg "_law_chain" = some (.ref fCh))
    (GT : FnOk P w K mg base CX0 1 fTo fdTo ["width"] spTop) (kT : PySem.W.keepIn K (.ref fTo) = true) (bT : Binds K fdTo ["width"] []) (gT : mg "_law_top" = some (.ref fTo))
    (GO : FnOk P w K mg base CX0 2 fWo fdWo ["well", "many", "top"] spWords) (kO : PySem.W.keepIn K (.ref fWo) = true) (bO : Binds K fdWo ["well", "many", "top"] []) (gO : mg "_law_words" = some (.ref fWo))
    (GS : FnOk P w K mg base CX0 1 fSu fdSu ["many", "deeds"] spSums) (kS : PySem.W.keepIn K (.ref fSu) = true) (bS : Binds K fdSu ["many", "deeds"] []) (gS : mg "_law_sums" = some (.ref fSu))
    (GV : FnOk P w K mg base CX0 2 fVa fdVa ["row", "width", "words"] (spVals K)) (kV : PySem.W.keepIn K (.ref fVa) = true) (bV : Binds K fdVa ["row", "width", "words"] []) (gV : mg "values" = some (.ref fVa))
    (GH : FnOk P w K mg base CX0 3 fWt fdWt ["row", "width", "words"] (spWorth K)) (kH : PySem.W.keepIn K (.ref fWt) = true) (bH : Binds K fdWt ["row", "width", "words"] []) (gH : mg "worth" = some (.ref fWt))
    (mr : mg "range" = none) (ms : mg "sum" = none) (mz : mg "zip" = none) (hlen : ns.length ≤ 63) (hbits : ∀ z ∈ ns, Builtin.Int.intBits z ≤ 1048576) (e0 : Env0 P w K mg base callerA [] s H) (hS : SqL K H a (ns.map V.int)) :
    codeAny (model P w) callerA (.call (.ref fa) ⟨[.ref a], []⟩) (CR CX0 [] P w H s (fun v _ => v = .bl true) E0) s := by
  refine fn_at (k := 4) (us := [.ref a]) (vs := [.ref a]) F sc_law ⟨rfl, by decide, by decide⟩ e0 ?_ (.cons rfl .nil) rfl (fun cdv => ?_)
  · have := bL s [.ref a] (e0.mod.kin.keeps fun b o e => (e0.bs b o e).1) rfl
    simpa using this
  have hr : Room 4 (callerA.deeper (envOfC "law" (defScope s_law) s.heap.objs.size fa cdv)) := Room.deeper (k := 4) ⟨rfl, by decide, by decide⟩ _
  have R1 := hr.mono (show 1 ≤ 4 by decide)
  have R2 := hr.mono (show 2 ≤ 4 by decide)
  have R3 := hr.mono (show 3 ≤ 4 by decide)
  refine ⟨_, pss_cons (ps_set (i := 1) sc_law.nd rfl (.inl rfl) (pe_call GW R1 (by rfl) gW kW bW .nil pass0 (pa_cons (pv 0) pa_nil)))
    (pss_cons (ps_for PassesOwn.never rfl (pi_range1 (by rfl) mr (pa_cons pe_int pa_nil)) (pg_name (i := 2) sc_law.nd rfl (.inl rfl))
      (pss_cons (ps_set (i := 3) sc_law.nd rfl (.inl rfl) (pe_op op_add pe_int (pe_call GD R1 (by rfl) gD kD bD .nil pass0 (pa_cons (pv 1) (pa_cons pe_int pa_nil)))))
      (pss_cons (ps_set (i := 4) sc_law.nd rfl (.inl rfl) (pe_call GC R2 (by rfl) gC kC bC .nil pass0 (pa_cons (pv 1) (pa_cons (pv 3) pa_nil))))
      (pss_cons (ps_set (i := 5) sc_law.nd rfl (.inl rfl) (pe_tup (pa_cons (pv 3) (pa_cons (pv 4) (pa_cons (pe_call GD R1 (by rfl) gD kD bD .nil pass0 (pa_cons (pv 1) (pa_cons (pe_op op_add (pv 3) pe_int) pa_nil))) pa_nil)))))
      (pss_cons (ps_set (i := 6) sc_law.nd rfl (.inl rfl) (pe_ix ix_list (pe_lst (pa_cons pe_int (pa_cons pe_int (pa_cons pe_int (pa_cons pe_int pa_nil))))) (pe_call GD R1 (by rfl) gD kD bD .nil pass0 (pa_cons (pv 1) (pa_cons pe_int pa_nil))) (fun _ _ => rfl)))
      (pss_mid (ps_if (pt_cmpR op_eq (pv 6) pe_int (nomark _)) (pss_one (ps_set (i := 6) sc_law.nd rfl (.inl rfl) (pe_op op_add pe_int (pe_call GD R1 (by rfl) gD kD bD .nil pass0 (pa_cons (pv 1) (pa_cons pe_int pa_nil)))))) pss_nil)
      (pss_cons (ps_set (i := 7) sc_law.nd rfl (.inl rfl) (pe_call GT R1 (by rfl) gT kT bT .nil pass0 (pa_cons (pv 6) pa_nil)))
      (pss_cons (ps_set (i := 8) sc_law.nd rfl (.inl rfl) (pe_call GO R2 (by rfl) gO kO bO .nil pass0 (pa_cons (pv 1) (pa_cons (pv 3) (pa_cons (pv 7) pa_nil)))))
      (pss_cons (ps_set (i := 9) sc_law.nd rfl (.inl rfl) (pe_lst pa_nil))
      (pss_cons (ps_for PassesOwn.never rfl (pi_list (pe_call GS R1 (by rfl) gS kS bS .nil pass0 (pa_cons (pv 3) (pa_cons (pv 4) pa_nil)))) (pg_name (i := 10) sc_law.nd rfl (.inl rfl))
        (pss_one (ps_expr (pe_bm PySem.F.plainAttrs_list PySem.F.slot_list_append PySem.F.type_list_append mt_append (pv 9) (pa_cons (pe_op op_mod (pe_op op_add (pe_callB (cr_sum rfl) (by rfl) ms (by decide +kernel) (pa_cons
          (pe_lc (own := [("one", 11), ("word", 12)]) (g := gTup K 2 (gCons (gName 11) (gCons (gName 12) gNil))) (by rfl) sc_law.nd (RZ.pi_zipA (by rfl) mz (pa_cons (pv 10) (pa_cons (pv 8) pa_nil))) (blkOk_by (own := [("one", 11), ("word", 12)]) (N := N_law) (sc := defScope s_law) (by decide +kernel))
            (fun _ _ _ _ _ => pg_tup rfl (pgs_cons (pg_name (i := 11) sc_law.nd rfl (.inl rfl)) (pgs_cons (pg_name (i := 12) sc_law.nd rfl (.inl rfl)) pgs_nil))) (fun _ _ _ _ _ => pts_nil) (fun _ _ _ _ _ => pe_op op_mul (pv 11) (pv 12))) pa_nil))
          (pe_ix ix_list (pv 10) (pe_un un_neg pe_int) (fun _ _ => rfl))) (pv 7)) pa_nil)))))
      (pss_one (ps_if (PW.pt (pw_or (pt_cmpR (op_neD hr.units) (pe_call GV R2 (by rfl) gV kV bV .nil pass0 (pa_cons (pv 5) (pa_cons (pv 6) (pa_cons (pv 8) pa_nil)))) (pv 9) (nomark _))
          (pw_or1 (pt_cmpR op_ne (pe_call GH R3 (by rfl) gH kH bH .nil pass0 (pa_cons (pv 5) (pa_cons (pv 6) (pa_cons (pv 8) pa_nil)))) (pe_ix ix_list (pv 9) (pe_ix ix_tup (pv 5) pe_int (fun _ _ => rfl)) (fun _ _ => rfl)) (nomark _)))))
        (pss_one (ps_ret pe_bl)) pss_nil))))))))))))
    (pss_one (ps_ret pe_bl))), ?_⟩
  refine ⟨.ref a, rfl, a, ns, rfl, hS, hlen, hbits, fun H1 p c s1 hp hc w1 => ?_⟩
  refine ⟨4, rfl, by decide, by decide, for_range (lo := 0) (n := 4) (fun i σ H3 => (∃ y2 y3 y4 y5 y6 y7 y8 y9 y10, σ = [some (.ref a), some (.ref p), y2, y3, y4, y5, y6, y7, y8, y9, y10, none, none]) ∧ WL H3 p c) ⟨⟨none, none, none, none, none, none, none, none, none, rfl⟩, w1⟩ (fun i σ H3 hi hp => ?_) (fun σ H3 hp => rfl)⟩
  obtain ⟨⟨y2, y3, y4, y5, y6, y7, y8, y9, y10, rfl⟩, w3⟩ := hp
  refine ⟨.ref p, rfl, p, c, 3, rfl, by decide, by decide, w3, fun H4 mz' m0 m1 w4 k4 => ⟨1, mz', rfl, rfl, ?_⟩⟩
  obtain ⟨m, hm⟩ : ∃ m : Nat, 1 + mz' = (m : Int) := ⟨(1 + mz').toNat, by omega⟩
  refine ⟨.ref p, rfl, .int (1 + mz'), rfl, p, c, 1 + mz', rfl, by omega, by omega, w4, fun H5 D rs ds eD hd hok hl hsw w5 k5 => ?_⟩
  refine ⟨.int (1 + mz'), rfl, .ref D, rfl, .ref p, rfl, .int (1 + mz'), rfl, 1 + mz', 8, rfl, rfl, p, c, 1 + mz' + 8, rfl, by omega, by omega, w5, fun H6 o o0 o1 w6 k6 => ?_⟩
  refine ⟨by show 3 ≤ sizeLine; decide, fun R hR => ?_⟩
  obtain ⟨nR1, nR2⟩ := w6.ne_new hR
  have t6 := k6.tups w5
  have sR := same_new (o := .tup [.int (1 + mz'), .ref D, .int o]) hR
  have hrow : RowAt (upd H6 R (.tup [.int (1 + mz'), .ref D, .int o])) R (1 + mz') ds o := ⟨D, rs, upd_same, sR _ _ (t6 _ _ eD), (Same.tups sR).ds (t6.ds hd)⟩
  have w7 := w6.upd (o := .tup [.int (1 + mz'), .ref D, .int o]) nR1 nR2
  have eD7 := sR _ _ (t6 _ _ eD)
  have hd7 := (Same.tups sR).ds (t6.ds hd)
  generalize upd H6 R (.tup [.int (1 + mz'), .ref D, .int o]) = H7 at hrow w7 eD7 hd7
  refine ⟨by show 4 ≤ sizeLine; decide, fun M hM => ?_⟩
  obtain ⟨nM1, nM2⟩ := w7.ne_new hM
  have sM := same_new (o := .lst [.int 1, .int 60, .int 0, .int 0]) hM
  refine ⟨.ref p, rfl, p, c, 4, rfl, by decide, by decide, w7.upd nM1 nM2, fun H8 z z0 z1 w8 k8 => ?_⟩
  obtain ⟨u, hu, hu0⟩ : ∃ u : Nat, atI [V.int 1, .int 60, .int 0, .int 0] z = some (.int u) ∧ u ≤ 60 := by
    obtain ⟨j, rfl⟩ := Int.eq_ofNat_of_zero_le z0
    have hj : j = 0 ∨ j = 1 ∨ j = 2 ∨ j = 3 := by omega
    rcases hj with rfl | rfl | rfl | rfl
    · exact ⟨1, rfl, by decide⟩
    · exact ⟨60, rfl, by decide⟩
    · exact ⟨0, rfl, by decide⟩
    · exact ⟨0, rfl, by decide⟩
  refine ⟨M, _, z, _, rfl, rfl, .inl (.inl (k8 _ _ nM1 nM2 upd_same)), hu, ?_⟩
  have t8 := (Same.tups sM).trans (k8.tups (w7.upd nM1 nM2))
  refine ⟨fun σ9 H9 => ∃ wd : Nat, 1 ≤ wd ∧ wd ≤ 60 ∧ σ9 = [some (.ref a), some (.ref p), some (.int (0 + i)), some (.int (1 + mz')), some (.ref D), some (.ref R), some (.int wd), y7, y8, y9, y10, none, none] ∧ WL H9 p c ∧ RowAt H9 R (1 + mz') ds o ∧ H9 D = some (.tup (rs.map V.ref)) ∧ DsAt H9 rs ds, ?_, ?_⟩
  · refine ⟨_, rfl, rfl, _, rfl, ite2 (fun e => ?_) (fun e => ?_)⟩
    · refine ⟨.ref p, rfl, p, c, 60, rfl, by decide, by decide, w8, fun H9 y v0 v1 w9 k9 => ⟨1, y, rfl, rfl, (1 + y).toNat, by omega, by omega, ?_, w9, (t8.trans (k9.tups w8)).row hrow, (t8.trans (k9.tups w8)) _ _ eD7, (t8.trans (k9.tups w8)).ds hd7⟩⟩
      rw [show (((1 + y).toNat : Nat) : Int) = 1 + y by omega]
      rfl
    · refine ⟨u, ?_, hu0, rfl, w8, t8.row hrow, t8 _ _ eD7, t8.ds hd7⟩
      have : ¬ (u : Int) = 0 := fun q => e (decide_eq_true (congrArg V.int q))
      omega
  rintro σ9 H9 ⟨wd, hw1, hw2, rfl, w9, hrow9, eD9, hd9⟩
  have p2 : (2 : Int) ≤ 2 ^ wd := by
    have := pw_le hw1
    simpa using this
  have p80 : (2 : Int) ^ wd ≤ 2 ^ 80 := pw_le (by omega)
  refine ⟨.int wd, rfl, wd, rfl, by omega, ?_⟩
  refine ⟨.ref p, rfl, .int (1 + mz'), rfl, .int (2 ^ wd), rfl, p, c, 1 + mz', 2 ^ wd, rfl, by omega, by omega, p2, p80, w9, fun H10 W xs eW hxl hxr nW1 nW2 w10 k10 => ?_⟩
  have t10 := k10.tups w9
  have hrow10 := t10.row hrow9
  have eD10 := t10 _ _ eD9
  have hd10 := t10.ds hd9
  have hxm : xs.length = m := by omega
  refine ⟨Nat.zero_le _, fun U hU => ?_⟩
  have sU := same_new (o := .lst []) hU
  have hpos := pw_pos wd
  rw [hm] at hok
  refine ⟨.int (1 + mz'), rfl, .ref D, rfl, D, m, rs, ds, congrArg (fun z => [V.int z, V.ref D]) hm, by omega, by omega, sU _ _ eD10, (Same.tups sU).ds hd10, hok, by omega, hsw, fun H11 Fo fs s11 eFo hfa => ?_⟩
  generalize hps : sms m ds (units m m) = ps at hfa
  have lens : ∀ q ∈ ps, q.1.length = m := by
    rw [← hps]
    exact sms_lens units_lens
  have hvals : ps.map (sval (2 ^ wd) xs) = vals (2 ^ wd) ds xs := by
    rw [← hps, ← hxm]
    exact all_sums hxr (by rw [hxm]; exact hok) hsw
  have psl : ps.length = m + 8 := by
    rw [← hps, sms_len, units_len, hl]
  have nUF : ∀ r q, H11 r = some (.lst ((pl q).map V.int)) → r ≠ U := fun r q e => by
    refine ne_of e (s11 _ _ (upd_same)) fun z => ?_
    have e2 := HO.lst.inj z
    unfold pl at e2
    rcases q with ⟨_ | ⟨x, xs⟩, c⟩ <;> simp at e2
  have nWU : W ≠ U := ne_of_none eW hU
  have nFU : Fo ≠ U := by
    refine ne_of eFo (s11 _ _ (upd_same)) fun z => ?_
    have e2 := HO.lst.inj z
    have : fs.length = 0 := by
      have := congrArg List.length e2
      rwa [List.length_map] at this
    rw [awLen hfa, psl] at this
    omega
  have sWU := (sU.trans s11)
  refine ⟨Fo, rfl, ⟨_, .inl (.inl eFo)⟩, for_list (K := K) (a := Fo) (xs := fs.map V.ref) (fun j σ H12 => ∃ y10, σ = [some (.ref a), some (.ref p), some (.int (0 + i)), some (.int (1 + mz')), some (.ref D), some (.ref R), some (.int wd), some (.int (2 ^ wd)), some (.ref W), some (.ref U), y10, none, none] ∧ H12 U = some (.lst (((ps.take j).map (sval (2 ^ wd) xs)).map V.int)) ∧ But U H11 H12) ⟨_, rfl, s11 _ _ upd_same, But.refl _ _⟩ (fun j σ H12 _ hp => ?_) (fun j x σ H12 hx hp => ?_) (fun σ H12 hp => ?_)⟩
  · obtain ⟨_, _, _, b12⟩ := hp
    exact .inl (.inl (b12 _ _ nFU eFo))
  · obtain ⟨y10', rfl, eU, b12⟩ := hp
    have hj : j < fs.length := by
      have := (List.getElem?_eq_some_iff.mp hx).1
      rwa [List.length_map] at this
    have hx' : x = .ref fs[j] := by
      rw [List.getElem?_map, List.getElem?_eq_getElem hj] at hx
      exact (Option.some.inj hx).symm
    subst hx'
    obtain ⟨q, hq1, hq2⟩ := awGet hfa (List.getElem?_eq_getElem hj)
    have hql := lens q (List.mem_of_getElem? hq1)
    have eq12 := b12 _ _ (nUF _ _ hq2) hq2
    have eW12 := b12 _ _ nWU (sWU _ _ eW)
    refine ⟨.ref U, rfl, .inl ⟨rfl, _, .inl (.inl eU)⟩, .ref fs[j], rfl, .ref W, rfl, fs[j], W, _, _, rfl, .inl ⟨.inl (.inl eq12), .inl (.inl eW12), fun L hL => ?_⟩⟩
    refine lc_it (walk_zip (K := K) (a := fs[j]) (b := W) (xs := (pl q).map V.int) (ys := xs.map V.int) (n := m) (by rw [List.length_map, List.length_map, hxm]; unfold pl; rw [List.length_append, hql]; simp)) (fun t H13 => H13 L = some (.lst (((List.zipWith (· * ·) (pl q) xs).take t).map V.int)) ∧ Same H12 H13) ⟨upd_same, same_new hL⟩ (fun t H13 _ hp => ⟨.inl (.inl (hp.2 _ _ eq12)), .inl (.inl (hp.2 _ _ eW12))⟩) (fun t x H13 H14 ht hp hy => ?_) (fun H13 hp => ?_)
    · obtain ⟨eL, s13⟩ := hp
      obtain ⟨T, x1, x2, rfl, hT, rfl, g1, g2⟩ := hy
      obtain ⟨n, hn, rfl⟩ := int_at g1
      obtain ⟨n', hn', rfl⟩ := int_at g2
      obtain ⟨b0, b1⟩ := hxr n' (List.mem_of_getElem? hn')
      have p60 : (2 : Int) ^ wd ≤ 2 ^ 60 := pw_le hw2
      have sT := same_new (o := .tup [.int n, .int n']) hT
      refine ⟨T, [.int n, .int n'], rfl, .inl (.inl upd_same), rfl, .int n, [.int n'], rfl, .int n', [], rfl, rfl, rfl, ?_⟩
      refine ⟨.int n, rfl, .int n', rfl, n, n', rfl, rfl, .inr ⟨by omega, by omega⟩, _, sT _ _ eL, ?_, ?_, ?_⟩
      · rw [List.length_map, List.length_take]
        exact small1000 (by omega)
      · rw [upd_same, zip_step hn hn', List.map_append]
        rfl
      · intro b u e
        rw [upd_ne (ne_of_none e hL)]
        exact sT b u (s13 b u e)
    obtain ⟨eL, s13⟩ := hp
    have e3 : (List.zipWith (· * ·) (pl q) xs).take m = List.zipWith (· * ·) q.1 xs := by
      have h1 : List.zipWith (· * ·) (pl q) xs = List.zipWith (· * ·) q.1 xs := by
        have key : ∀ (l k t : List Int), l.length = k.length → List.zipWith (· * ·) (l ++ t) k = List.zipWith (· * ·) l k := by
          intro l
          induction l with
          | nil =>
            intro k t h
            cases k with
            | nil => cases t <;> rfl
            | cons _ _ => simp at h
          | cons x l ih =>
            intro k t h
            cases k with
            | nil => simp at h
            | cons y k =>
              show x * y :: List.zipWith (· * ·) (l ++ t) k = x * y :: List.zipWith (· * ·) l k
              rw [ih k t (by simpa using h)]
        unfold pl
        exact key _ _ _ (by omega)
      rw [h1]
      apply List.take_of_length_le
      simp [hql, hxm]
    rw [e3] at eL
    have last : atI ((pl q).map V.int) (-1) = some (.int q.2) := by
      unfold pl
      rw [List.map_append]
      exact atI_last _ _
    refine ⟨L, _, rfl, .inl (.inl eL), .ref fs[j], rfl, 1, rfl, fs[j], _, -1, .int q.2, rfl, rfl, .inl (.inl (s13 _ _ eq12)), last, _, q.2, rfl, rfl, .int (2 ^ wd), rfl, _, _, rfl, rfl, hpos, U, _, _, rfl, rfl, s13 _ _ eU, ?_, some (.ref fs[j]), rfl, ?_, ?_⟩
    · rw [List.length_map, List.length_map, List.length_take]
      exact small1000 (by omega)
    · rw [upd_same, List.take_add_one, hq1, List.map_append, List.map_append, dot_sum]
      rfl
    · intro b u n e
      rw [upd_ne n]
      exact s13 _ _ (b12 b u n e)
  obtain ⟨y10', rfl, eU, b12⟩ := hp
  rw [List.length_map, awLen hfa, List.take_length, hvals] at eU
  have t12 := (Same.tups sWU).trans (b12.tups (s11 _ _ upd_same))
  have hrow12 := t12.row hrow10
  have eW12 := b12 _ _ nWU (sWU _ _ eW)
  refine ⟨.ref R, rfl, .int wd, rfl, .ref W, rfl, R, W, 1 + mz', o, ds, xs, wd, rfl, hrow12, (by rw [hm]; exact hok), by omega, .inl (.inl eW12), by omega, by omega, by omega, fun H13 Fo2 s13 hFo2 eFo2 => ?_⟩
  obtain ⟨vs, hvs⟩ : ∃ vs, vs = vals (2 ^ wd) ds xs := ⟨_, rfl⟩
  rw [← hvs] at eFo2 eU
  have hvl : vs.length = xs.length + ds.length := by rw [hvs, vals_len]
  have eU13 := s13 _ _ eU
  refine ⟨.ref U, rfl, _, _, .lst (.inl (.inl eFo2)) (dp_ints _), .lst (.inl (.inl eU13)) (dp_ints _), shaped_ints _, shaped_ints _, _, rfl, ?_⟩
  rw [eqv_ints]
  refine ⟨.ref R, rfl, .int wd, rfl, .ref W, rfl, R, W, 1 + mz', o, ds, xs, wd, rfl, (Same.tups s13).row hrow12, (by rw [hm]; exact hok), by omega, .inl (.inl (s13 _ _ eW12)), by omega, by omega, by omega, by omega, by omega, fun H14 s14 => ?_⟩
  obtain ⟨D2, rs2, eR2, eD2, hd2⟩ := (Same.tups (s13.trans s14)).row hrow12
  refine ⟨.ref U, rfl, .ref R, rfl, R, _, 2, .int o, rfl, rfl, SqT.of eR2, rfl, U, _, o, _, rfl, rfl, .inl (.inl (s14 _ _ eU13)), atI_ints o0 (by omega), rfl, _, rfl, ?_⟩
  rw [← hvs]
  refine iteNS rfl ?_
  have wU : ∀ {b o}, H10 b = some o → b ≠ U → H14 b = some o := fun {b o} e n => s14 _ _ (s13 _ _ (b12 _ _ n (sWU _ _ e)))
  refine ⟨⟨_, _, _, _, _, _, _, _, _, rfl⟩, ?_⟩
  obtain ⟨n, cs, r, s', e1, e2⟩ := w10
  exact ⟨n, cs, r, s', wU e1 (ne_of_none e1 hU), wU e2 (ne_of_none e2 hU)⟩
/-! ### what the top has written -/
theorem all_mk {l : PySem.W.OpenLaw} {w : World} {K : PySem.W.Frag} {h : Heap} {mg : Str → Option Value} {fa : Addr} (X : K.In h) (G : h.Ns mainGlobals mg) (hfa : mg "law" = some (.ref fa))
    {f0 : Addr} {od0 an0 : Option Addr} {sl0 : Array (Option Value)} {oc0 kV0 dc0 pm0 cd0 ct0 : Value}
    {f1 : Addr} {od1 an1 : Option Addr} {sl1 : Array (Option Value)} {oc1 kV1 dc1 pm1 cd1 ct1 : Value}
    {f2 : Addr} {od2 an2 : Option Addr} {sl2 : Array (Option Value)} {oc2 kV2 dc2 pm2 cd2 ct2 : Value}
    {f3 : Addr} {od3 an3 : Option Addr} {sl3 : Array (Option Value)} {oc3 kV3 dc3 pm3 cd3 ct3 : Value}
    {f4 : Addr} {od4 an4 : Option Addr} {sl4 : Array (Option Value)} {oc4 kV4 dc4 pm4 cd4 ct4 : Value}
    {f5 : Addr} {od5 an5 : Option Addr} {sl5 : Array (Option Value)} {oc5 kV5 dc5 pm5 cd5 ct5 : Value}
    {f6 : Addr} {od6 an6 : Option Addr} {sl6 : Array (Option Value)} {oc6 kV6 dc6 pm6 cd6 ct6 : Value}
    {f7 : Addr} {od7 an7 : Option Addr} {sl7 : Array (Option Value)} {oc7 kV7 dc7 pm7 cd7 ct7 : Value}
    {f8 : Addr} {od8 an8 : Option Addr} {sl8 : Array (Option Value)} {oc8 kV8 dc8 pm8 cd8 ct8 : Value}
    {f9 : Addr} {od9 an9 : Option Addr} {sl9 : Array (Option Value)} {oc9 kV9 dc9 pm9 cd9 ct9 : Value}
    (a0 : PySem.W.nsIn K mainGlobals "deed_value" = some (some (.ref f0)))
    (l0 : K.lookup f0 = some ⟨oc0, od0, .func (PySem.W.fnOf "deed_value" "deed_value" (defArgs s_deed_value) (defBody s_deed_value) (defScope s_deed_value) .none kV0 dc0 pm0 an0 cd0 ct0), sl0⟩)
    (c0 : PySem.W.codeIn K cd0 "deed_value" = true) (k0 : PySem.W.keepIn K (.ref f0) = true)
    (a1 : PySem.W.nsIn K mainGlobals "values" = some (some (.ref f1)))
    (l1 : K.lookup f1 = some ⟨oc1, od1, .func (PySem.W.fnOf "values" "values" (defArgs s_values) (defBody s_values) (defScope s_values) .none kV1 dc1 pm1 an1 cd1 ct1), sl1⟩)
    (c1 : PySem.W.codeIn K cd1 "values" = true) (k1 : PySem.W.keepIn K (.ref f1) = true)
    (a2 : PySem.W.nsIn K mainGlobals "worth" = some (some (.ref f2)))
    (l2 : K.lookup f2 = some ⟨oc2, od2, .func (PySem.W.fnOf "worth" "worth" (defArgs s_worth) (defBody s_worth) (defScope s_worth) .none kV2 dc2 pm2 an2 cd2 ct2), sl2⟩)
    (c2 : PySem.W.codeIn K cd2 "worth" = true) (k2 : PySem.W.keepIn K (.ref f2) = true)
    (a3 : PySem.W.nsIn K mainGlobals "_law_well" = some (some (.ref f3)))
    (l3 : K.lookup f3 = some ⟨oc3, od3, .func (PySem.W.fnOf "_law_well" "_law_well" (defArgs s_law_well) (defBody s_law_well) (defScope s_law_well) .none kV3 dc3 pm3 an3 cd3 ct3), sl3⟩)
    (c3 : PySem.W.codeIn K cd3 "_law_well" = true) (k3 : PySem.W.keepIn K (.ref f3) = true)
    (a4 : PySem.W.nsIn K mainGlobals "_law_draw" = some (some (.ref f4)))
    (l4 : K.lookup f4 = some ⟨oc4, od4, .func (PySem.W.fnOf "_law_draw" "_law_draw" (defArgs s_law_draw) (defBody s_law_draw) (defScope s_law_draw) .none kV4 dc4 pm4 an4 cd4 ct4), sl4⟩)
    (c4 : PySem.W.codeIn K cd4 "_law_draw" = true) (k4 : PySem.W.keepIn K (.ref f4) = true)
    (a5 : PySem.W.nsIn K mainGlobals "_law_top" = some (some (.ref f5)))
    (l5 : K.lookup f5 = some ⟨oc5, od5, .func (PySem.W.fnOf "_law_top" "_law_top" (defArgs s_law_top) (defBody s_law_top) (defScope s_law_top) .none kV5 dc5 pm5 an5 cd5 ct5), sl5⟩)
    (c5 : PySem.W.codeIn K cd5 "_law_top" = true) (k5 : PySem.W.keepIn K (.ref f5) = true)
    (a6 : PySem.W.nsIn K mainGlobals "_law_words" = some (some (.ref f6)))
    (l6 : K.lookup f6 = some ⟨oc6, od6, .func (PySem.W.fnOf "_law_words" "_law_words" (defArgs s_law_words) (defBody s_law_words) (defScope s_law_words) .none kV6 dc6 pm6 an6 cd6 ct6), sl6⟩)
    (c6 : PySem.W.codeIn K cd6 "_law_words" = true) (k6 : PySem.W.keepIn K (.ref f6) = true)
    (a7 : PySem.W.nsIn K mainGlobals "_law_sums" = some (some (.ref f7)))
    (l7 : K.lookup f7 = some ⟨oc7, od7, .func (PySem.W.fnOf "_law_sums" "_law_sums" (defArgs s_law_sums) (defBody s_law_sums) (defScope s_law_sums) .none kV7 dc7 pm7 an7 cd7 ct7), sl7⟩)
    (c7 : PySem.W.codeIn K cd7 "_law_sums" = true) (k7 : PySem.W.keepIn K (.ref f7) = true)
    (a8 : PySem.W.nsIn K mainGlobals "_law_chain" = some (some (.ref f8)))
    (l8 : K.lookup f8 = some ⟨oc8, od8, .func (PySem.W.fnOf "_law_chain" "_law_chain" (defArgs s_law_chain) (defBody s_law_chain) (defScope s_law_chain) .none kV8 dc8 pm8 an8 cd8 ct8), sl8⟩)
    (c8 : PySem.W.codeIn K cd8 "_law_chain" = true) (k8 : PySem.W.keepIn K (.ref f8) = true)
    (a9 : PySem.W.nsIn K mainGlobals "law" = some (some (.ref f9)))
    (l9 : K.lookup f9 = some ⟨oc9, od9, .func (PySem.W.fnOf "law" "law" (defArgs s_law) (defBody s_law) (defScope s_law) .none kV9 dc9 pm9 an9 cd9 ct9), sl9⟩)
    (c9 : PySem.W.codeIn K cd9 "law" = true) (k9 : PySem.W.keepIn K (.ref f9) = true)
    (z_abs : PySem.W.nsIn K mainGlobals "abs" = some none)
    (z_int : PySem.W.nsIn K mainGlobals "int" = some none)
    (z_list : PySem.W.nsIn K mainGlobals "list" = some none)
    (z_max : PySem.W.nsIn K mainGlobals "max" = some none)
    (z_range : PySem.W.nsIn K mainGlobals "range" = some none)
    (z_sum : PySem.W.nsIn K mainGlobals "sum" = some none)
    (z_tuple : PySem.W.nsIn K mainGlobals "tuple" = some none)
    (z_zip : PySem.W.nsIn K mainGlobals "zip" = some none)
    : ∀ (s : Shared) (a : Addr) (ns : List Int) (base : Heap) (H : Hp), ns.length ≤ 63 → (∀ z ∈ ns, Builtin.Int.intBits z ≤ 1048576) → Env0 l.prog w K mg base callerA [] s H → SqL K H a (ns.map V.int) →
      codeAny (model l.prog w) callerA (.call (.ref fa) ⟨[.ref a], []⟩) (CR CX0 [] l.prog w H s (fun v _ => v = .bl true) E0) s := by
  have F_deed_value := fun_mk (st := s_deed_value) l0 c0 k0
  have b_deed_value := F_deed_value.binds (ps := ["deed", "told", "size"]) fun _ _ _ _ _ _ us hl => match us, hl with | [_, _, _], _ => rfl
  have g_deed_value := PySem.W.mg_of X G a0
  have F_values := fun_mk (st := s_values) l1 c1 k1
  have b_values := F_values.binds (ps := ["row", "width", "words"]) fun _ _ _ _ _ _ us hl => match us, hl with | [_, _, _], _ => rfl
  have g_values := PySem.W.mg_of X G a1
  have F_worth := fun_mk (st := s_worth) l2 c2 k2
  have b_worth := F_worth.binds (ps := ["row", "width", "words"]) fun _ _ _ _ _ _ us hl => match us, hl with | [_, _, _], _ => rfl
  have g_worth := PySem.W.mg_of X G a2
  have F_law_well := fun_mk (st := s_law_well) l3 c3 k3
  have b_law_well := F_law_well.binds (ps := ["script"]) fun _ _ _ _ _ _ us hl => match us, hl with | [_], _ => rfl
  have g_law_well := PySem.W.mg_of X G a3
  have F_law_draw := fun_mk (st := s_law_draw) l4 c4 k4
  have b_law_draw := F_law_draw.binds (ps := ["well", "many"]) fun _ _ _ _ _ _ us hl => match us, hl with | [_, _], _ => rfl
  have g_law_draw := PySem.W.mg_of X G a4
  have F_law_top := fun_mk (st := s_law_top) l5 c5 k5
  have b_law_top := F_law_top.binds (ps := ["width"]) fun _ _ _ _ _ _ us hl => match us, hl with | [_], _ => rfl
  have g_law_top := PySem.W.mg_of X G a5
  have F_law_words := fun_mk (st := s_law_words) l6 c6 k6
  have b_law_words := F_law_words.binds (ps := ["well", "many", "top"]) fun _ _ _ _ _ _ us hl => match us, hl with | [_, _, _], _ => rfl
  have g_law_words := PySem.W.mg_of X G a6
  have F_law_sums := fun_mk (st := s_law_sums) l7 c7 k7
  have b_law_sums := F_law_sums.binds (ps := ["many", "deeds"]) fun _ _ _ _ _ _ us hl => match us, hl with | [_, _], _ => rfl
  have g_law_sums := PySem.W.mg_of X G a7
  have F_law_chain := fun_mk (st := s_law_chain) l8 c8 k8
  have b_law_chain := F_law_chain.binds (ps := ["well", "many"]) fun _ _ _ _ _ _ us hl => match us, hl with | [_, _], _ => rfl
  have g_law_chain := PySem.W.mg_of X G a8
  have F_law := fun_mk (st := s_law) l9 c9 k9
  have b_law := F_law.binds (ps := ["script"]) fun _ _ _ _ _ _ us hl => match us, hl with | [_], _ => rfl
  obtain rfl : fa = f9 := by
    have e := hfa.symm.trans (PySem.W.mg_of X G a9)
    cases e
    rfl
  have m_abs := PySem.W.mg_none_of X G z_abs
  have m_int := PySem.W.mg_none_of X G z_int
  have m_list := PySem.W.mg_none_of X G z_list
  have m_max := PySem.W.mg_none_of X G z_max
  have m_range := PySem.W.mg_none_of X G z_range
  have m_sum := PySem.W.mg_none_of X G z_sum
  have m_tuple := PySem.W.mg_none_of X G z_tuple
  have m_zip := PySem.W.mg_none_of X G z_zip
  intro s a ns base H hlen hbits e0 hS
  have GD := ok_draw (P := l.prog) (w := w) (mg := mg) (base := base) (k := 0) F_law_draw
  have GW := ok_well (P := l.prog) (w := w) (mg := mg) (base := base) (k := 0) F_law_well m_abs
  have GC := ok_ch (P := l.prog) (w := w) (mg := mg) (base := base) (k := 0) F_law_chain GD F_law_draw.kp b_law_draw g_law_draw m_range m_max m_tuple
  have GT := ok_top (P := l.prog) (w := w) (mg := mg) (base := base) (k := 0) F_law_top m_range
  have GO := ok_words (P := l.prog) (w := w) (mg := mg) (base := base) (k := 0) F_law_words GD F_law_draw.kp b_law_draw g_law_draw m_range
  have GS := ok_ls (P := l.prog) (w := w) (mg := mg) (base := base) (k := 0) F_law_sums m_range m_int m_zip
  have GX := ok_dv (P := l.prog) (w := w) (mg := mg) (base := base) (k := 0) F_deed_value
  have GV := ok_vals (P := l.prog) (w := w) (mg := mg) (base := base) (k := 0) F_values GX F_deed_value.kp b_deed_value g_deed_value m_list
  have GH := ok_worth (P := l.prog) (w := w) (mg := mg) (base := base) (k := 0) F_worth GV F_values.kp b_values g_values
  exact law_run F_law b_law GW F_law_well.kp b_law_well g_law_well GD F_law_draw.kp b_law_draw g_law_draw GC F_law_chain.kp b_law_chain g_law_chain GT F_law_top.kp b_law_top g_law_top GO F_law_words.kp b_law_words g_law_words GS F_law_sums.kp b_law_sums g_law_sums GV F_values.kp b_values g_values GH F_worth.kp b_worth g_worth m_range m_sum m_zip hlen hbits e0 hS
end
end KK
open PySem PySem.W PyProof.Rows
set_option maxHeartbeats 0 in
theorem PySem.Challenge.cw_anywide_k07_longest_rows_of_sums_holds : PySem.Challenge.rw_anywide_k07_longest_rows_of_sums.Holds := by
  w_on; o_law; k_head; (case hw => w_witness2)
  k_fill
  refine AW.walkG (l := PySem.Challenge.rw_anywide_k07_longest_rows_of_sums) (n := 63) rfl (by decide) rfl (fun w h Y => PySem.W.kIn_of Y) ?F
  case F =>
    intro w mg fa h KX G hmg
    refine' KK.all_mk KX G hmg ?a0 ?l0 ?c0 ?k0 ?a1 ?l1 ?c1 ?k1 ?a2 ?l2 ?c2 ?k2 ?a3 ?l3 ?c3 ?k3 ?a4 ?l4 ?c4 ?k4 ?a5 ?l5 ?c5 ?k5 ?a6 ?l6 ?c6 ?k6 ?a7 ?l7 ?c7 ?k7 ?a8 ?l8 ?c8 ?k8 ?a9 ?l9 ?c9 ?k9 ?z_abs ?z_int ?z_list ?z_max ?z_range ?z_sum ?z_tuple ?z_zip
    (case a0 => k_is)
    (case l0 => k_is)
    (case c0 => k_is)
    (case k0 => k_is)
    (case a1 => k_is)
    (case l1 => k_is)
    (case c1 => k_is)
    (case k1 => k_is)
    (case a2 => k_is)
    (case l2 => k_is)
    (case c2 => k_is)
    (case k2 => k_is)
    (case a3 => k_is)
    (case l3 => k_is)
    (case c3 => k_is)
    (case k3 => k_is)
    (case a4 => k_is)
    (case l4 => k_is)
    (case c4 => k_is)
    (case k4 => k_is)
    (case a5 => k_is)
    (case l5 => k_is)
    (case c5 => k_is)
    (case k5 => k_is)
    (case a6 => k_is)
    (case l6 => k_is)
    (case c6 => k_is)
    (case k6 => k_is)
    (case a7 => k_is)
    (case l7 => k_is)
    (case c7 => k_is)
    (case k7 => k_is)
    (case a8 => k_is)
    (case l8 => k_is)
    (case c8 => k_is)
    (case k8 => k_is)
    (case a9 => k_is)
    (case l9 => k_is)
    (case c9 => k_is)
    (case k9 => k_is)
    (case z_abs => k_is)
    (case z_int => k_is)
    (case z_list => k_is)
    (case z_max => k_is)
    (case z_range => k_is)
    (case z_sum => k_is)
    (case z_tuple => k_is)
    (case z_zip => k_is)
