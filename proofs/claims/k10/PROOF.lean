import PyProof.Rows.All
import Wide.All
import OpenK.AllK
import Wide.FinOn
import HandS.Base
import HandS.Call
import HandS.List
import HandS.Comp
import HandS.Ends
import HandS.Dict
import HandS.Iter
import HandS.EndBits
import HandS.Words
import HandS.WordsList
import HandS.WordsDict
import HandS.Text
import HandS.Wide
import HandS.WideBits
import HandS.Conv
import HandS.TupLe
import HandS.IsInst
import HandS.ExcIs
import HandS.ExcValue
import HandS.TupSets
import HandS.Zip
import HandS.Walk
import HandS.TupAny
import HandS.Deep
import PyProof.ReprRoads
import PyProof.ReprBulk
import KE.GoesZip
import KE.GoesMore
import KE.GoesEnum
import HandS.DictTup
import HandS.TupLen
import HandS.NoneIn
import HandS.Records
import HandS.Flow
import HandS.More
import KE.KDictWalk
import KE.KDictDisplayH
import PyProof.WalkInts
import PyProof.DictTable
import KE.KeyNested
import KE.KDictKeyed
import PyProof.DictMoreH
import HandS.ListItems
import KE.KTurns
import PySem.Challenge.RW_anywide_k10_carries_step_by_step
set_option Elab.async false
set_option linter.all false
set_option maxRecDepth 100000
namespace AW
open PySem PySem.Spec PyProof.Rows L2

/-! ### a def's call at one around -/
theorem fn_at {P : Program} {w : World} {K : PySem.W.Frag} {mg : Str → Option Value} {base : Heap} {k : Nat} {f : Addr} {x qual : Str} {st : Stmt} {fd : FuncData} {N ps : List Str}
    (F : Fun K x qual st f fd) (S : FnScope N ps (defScope st)) {A : Around} {outer : List Env} {s : Shared} {H : Hp} {args : Args} {us : List Value} {vs : List V} {Q : VK} {E : XK}
    (hr : Room (k + 1) A) (e0 : Env0 P w K mg base A outer s H) (hb : BindsTo s fd args (ps.zip us)) (r : Vals vs us) (hl : vs.length = ps.length)
    (hbody : ∀ cdv : Value, ∃ t, PSs (cxOf CX0 P w K mg base N qual (defScope st) f cdv A outer s H E).nox (defBody st) t ∧ t { nx := fun _ H' => Q .non H', rt := Q } (start N vs) H) :
    codeAny (model P w) A (.call (.ref f) args) (CR CX0 outer P w H s Q E) s := by
  obtain ⟨oc, od, kV, doc, pm, an, cdv, ct, osl, rfl, lk, hcd⟩ := F.ex
  have keep0 : ∀ b o, base.get? b = some o → s.heap.get? b = some o := fun b o e => (e0.bs b o e).1
  have KX := e0.mod.kin.keeps keep0
  refine codeAny_call_function (Room.depth hr) (KX _ _ lk) rfl S.co S.gen rfl (PySem.W.codeRec_of KX hcd) (hb _ _ _ _ ?_)
  have kinds : ∀ y ∈ ps.zip us, (defScope st).names.lookup y.1 = some .local ∨ ((defScope st).names.lookup y.1 = some .cell ∧ ((cellsFrom (s.heap.objs.size + 1) (defScope st).names []).lookup y.1).isSome = true) := by
    intro y hy
    obtain ⟨n, v⟩ := y
    exact (S.par n (List.of_mem_zip hy).1).elim Or.inl fun q => Or.inr ⟨q, PySem.W.cellsFrom_some _ _ _ (.inl q)⟩
  refine wpAny_newFunctionEnv_cells S.kind kinds ?_
  rintro env rfl s1 ic
  obtain ⟨t, ht, hq⟩ := hbody cdv
  refine ⟨(e0.mod.nolimit.keeps keep0).keeps ic.toInCall.keep, codeAny_func (wpAny_mono (ht.nox.run [] s1 (start N vs) H _ (inv_start S hr.hd e0 hl r ic) hq) ?_ (fun _ _ z => z))⟩
  intro fl s' hs
  cases fl with
  | ret u =>
    obtain ⟨v, σ', H', J, rv, q⟩ := hs
    exact ⟨v, H', J.os, J.bare, J.base, J.hok, rv, q⟩
  | next =>
    obtain ⟨σ', H', J, q⟩ := hs
    exact ⟨V.non, H', J.os, J.bare, J.base, J.hok, rfl, q⟩
  | brk => exact hs.elim fun _ z => z.elim fun _ z => z.2.elim
  | cont => exact hs.elim fun _ z => z.elim fun _ z => z.2.elim

/-! ### the law's own call -/
theorem env_at {P : Program} {w : World} {K : PySem.W.Frag} {mg mb : Str → Option Value} {a : Addr} {s1 : Shared} {vs : List Value} {H : Hp}
    (KX : K.In s1.heap) (hns : s1.heap.Ns mainGlobals mg) (hb : s1.heap.Ns builtinsNs mb) (hbb : ∀ x : Str, x ≠ "__name__" → mb x = bootBuiltins x) (hlim : s1.heap.NoLimit) (hg : s1.gens = #[])
    (ha : s1.heap.get? a = some { cls := .type "list", data := .seq vs.toArray }) (one : ∀ b u, H b = some u → b = a) (out : ∀ o, K.lookup a = some o → H a = none) (ok : HOk P w H s1.heap) :
    Env0 P w K mg (hidT s1.heap H) callerA [] s1 H := by
  have dicts : ∀ {b : Addr} {m : Str → Option Value}, s1.heap.Ns b m → (hidT s1.heap H).Ns b m := by
    rintro b m ⟨o, es, ep, e, d, r⟩
    refine ⟨o, es, ep, hidT_get e ?_, d, r⟩
    match q : H b with
    | none => rfl
    | some u =>
      obtain rfl := one b u q
      have e2 := Option.some.inj (e.symm.trans ha)
      rw [e2] at d
      cases d
  have kin : K.In (hidT s1.heap H) := by
    intro b o e
    refine hidT_get (KX b o e) ?_
    match q : H b with
    | none => rfl
    | some u =>
      obtain rfl := one b u q
      exact q.symm.trans (out o e)
  obtain ⟨mc, l1, l2⟩ := hlim
  exact ⟨rfl, ⟨kin, dicts hns, ⟨mb, dicts hb, hbb⟩, ⟨mc, dicts l1, l2⟩⟩, fun b o e => of_hidT e, Nat.le_of_eq (hidT_size _ _), trivial, (fun b z => nomatch z), ok, .of_eq hg⟩

theorem law_end {P : Program} {w : World} {K : PySem.W.Frag} {mg mb : Str → Option Value} {fa a : Addr} {s1 : Shared} {vs : List Value} {ns : List Int}
    (KX : K.In s1.heap) (hns : s1.heap.Ns mainGlobals mg) (hb : s1.heap.Ns builtinsNs mb) (hbb : ∀ x : Str, x ≠ "__name__" → mb x = bootBuiltins x) (hlim : s1.heap.NoLimit) (hg : s1.gens = #[])
    (ha : s1.heap.get? a = some { cls := .type "list", data := .seq vs.toArray }) (hi : IntsAre vs ns) (hl : ns.length ≤ sizeLine)
    (run : ∀ (base : Heap) (H : Hp), Env0 P w K mg base callerA [] s1 H → SqL K H a (ns.map V.int) →
      codeAny (model P w) callerA (.call (.ref fa) ⟨[.ref a], []⟩) (CR CX0 [] P w H s1 (fun v _ => v = .bl true) E0) s1) :
    codeAny (model P w) callerA (.call (.ref fa) ⟨[.ref a], []⟩) (fun r s' => r = .ok (.ret (.bool true)) ∧ OldK s1.heap s'.heap ∧ s'.os = s1.os ∧ AllBare s'.gens) s1 := by
  have rv := vals_ints hi
  have fin : ∀ H : Hp, HOk P w H s1.heap → (∀ b u, H b = some u → ∃ o xs, u = .frz o (.lst xs)) → ∀ r s', CR CX0 [] P w H s1 (fun v _ => v = .bl true) E0 r s' →
      r = .ok (.ret (.bool true)) ∧ OldK s1.heap s'.heap ∧ s'.os = s1.os ∧ AllBare s'.gens := by
    intro H ok hf r s' h
    match r, h with
    | .ok (.ret u), ⟨v, H', os, bare, un, ok2, rel, q⟩ =>
      obtain rfl : v = .bl true := q
      obtain rfl : u = Value.bool true := rel
      refine ⟨rfl, OldK.of_keep ?_, os, bare⟩
      intro b o e
      match qb : H b with
      | none => exact un.keep b o e qb (fun z => nomatch z) (fun z => nomatch z)
      | some ho =>
        obtain ⟨o2, xs, rfl⟩ := hf b ho qb
        have k1 := (ok b _ qb).1
        have k2 := (ok2 b _ (un.frzs b o2 _ qb)).1
        rw [e] at k1
        cases k1
        exact k2
  match hk : K.lookup a with
  | some o =>
    have e := (KX a o hk).symm.trans ha
    obtain rfl := Option.some.inj e
    have ok : HOk P w (fun _ => none) s1.heap := fun b u z => nomatch z
    refine codeAny_mono (run _ (fun _ => none) (env_at KX hns hb hbb hlim hg ha (fun b u z => nomatch z) (fun _ _ => rfl) ok) ?_) (fin _ ok fun b u z => nomatch z)
    exact .inr ⟨_, vs.toArray, _, hk, rfl, rfl, rfl, by rw [List.size_toArray, hi.length]; exact hl, by simpa using rv⟩
  | none =>
    let o : Obj := { cls := .type "list", data := .seq vs.toArray }
    have at_ : ∀ b u, (if b = a then some (HO.frz o (.lst (ns.map V.int))) else none) = some u → b = a ∧ u = HO.frz o (.lst (ns.map V.int)) := by
      intro b u z
      by_cases hb : b = a
      · rw [if_pos hb] at z
        exact ⟨hb, (Option.some.inj z).symm⟩
      · rw [if_neg hb] at z
        cases z
    have ok : HOk P w (fun b => if b = a then some (HO.frz o (.lst (ns.map V.int))) else none) s1.heap := by
      intro b u z
      obtain ⟨rfl, rfl⟩ := at_ b u z
      exact ⟨ha, by rw [List.length_map]; exact hl, vs, _, rv, ha⟩
    refine codeAny_mono (run _ _ (env_at KX hns hb hbb hlim hg ha (fun b u z => (at_ b u z).1) (fun o' e => absurd (hk.symm.trans e) (fun z => nomatch z)) ok) ?_) (fin _ ok fun b u z => ⟨_, _, (at_ b u z).2⟩)
    exact .inl (.inr ⟨o, if_pos rfl⟩)

theorem walkG {l : PySem.W.OpenLaw} {n : Nat} {q : Program} {loose : List Str} {XP : (Str → Option Value) → Heap → Prop} {YP : World → Heap → Prop} {d : DefRec} {K : Params → PySem.W.Frag}
    (hn : l.most = some n) (hn2 : n ≤ sizeLine) (hdf : d.params.defaults = []) (hY : ∀ (w : World) (h : Heap), YP w h → (K w.params).In h)
    (F : ∀ (w : World) (mg : Str → Option Value) (fa : Addr) (h : Heap), (K w.params).In h → h.Ns mainGlobals mg → mg d.name = some (.ref fa) →
      ∀ (s : Shared) (a : Addr) (ns : List Int) (base : Heap) (H : Hp), ns.length ≤ n → (∀ z ∈ ns, Builtin.Int.intBits z ≤ 1048576) → Env0 l.prog w (K w.params) mg base callerA [] s H → SqL (K w.params) H a (ns.map V.int) →
        codeAny (model l.prog w) callerA (.call (.ref fa) ⟨[.ref a], []⟩) (CR CX0 [] l.prog w H s (fun v _ => v = .bl true) E0) s) :
    PySem.W.WalkO q loose XP YP l.row.toRowW d [] (fun f vs => PySem.call f vs) := by
  apply Att.attach_callB hn hdf
  intro w s0 s1 mg mb fa o pm cd doc a vs ns G Y ho hd hcd hmg hobj hints hlen hbits hg
  have KX := hY w _ Y
  exact law_end KX G.T.g G.T.b G.T.builtins G.T.nolimit hg hobj hints (Nat.le_trans hlen hn2) fun base H e0 hS => F w mg fa _ KX G.T.g hmg s1 a ns base H hlen hbits e0 hS

/-! ### repr of data -/
section
variable {X : Cx}
/-- what a value reads, whatever the state -/
def Rz (X : Cx) (H : Hp) (v : V) (d : PyData) : Prop := ∀ pins σ s u, Inv X pins σ H s → RelV v u → ∃ as, Reads s.heap u d as ∧ sysModules ∉ as
def rRepr (X : Cx) : List V → Hp → VK → Prop := fun xs H Q => ∃ (x : V) (d : PyData), xs = [x] ∧ (Rz X H x d ∨ (Dp X.K H x d ∧ d.hasDict = false)) ∧ d.showable = true ∧ d.depth ≤ 40 ∧ d.shown.length ≤ sizeLine ∧ Q (.str d.shown) H
theorem call_repr (hg : X.A.guards = some []) (hu : X.A.units + 64 < cLine) : CallR X (.builtin "repr") (rRepr X) := by
  intro pins s σ H xs us Q I r h
  obtain ⟨x, d, rfl, hd, hs, hp, hz, q⟩ := h
  match us, r with
  | [u], .cons rx .nil =>
    have rd : ∃ as, Reads s.heap u d as ∧ (d.hasDict = true → sysModules ∉ as) := by
      rcases hd with hd | ⟨hd, hn⟩
      · obtain ⟨as, h1, h2⟩ := hd pins σ s u I rx
        exact ⟨as, h1, fun _ => h2⟩
      · obtain ⟨as, h1⟩ := Dp.reads I d x u hd rx
        exact ⟨as, h1, fun z => by rw [hn] at z; cases z⟩
    obtain ⟨as, h1, h2⟩ := rd
    cases h1 with
    | none => exact PySem.P.repr_of_none ⟨.str _, H, I.tok _, ⟨_, rfl⟩, q⟩
    | bool b => exact PySem.P.repr_of_bool ⟨.str _, H, I.tok _, ⟨_, rfl⟩, by have q' := q; simp only [PyData.shown] at q'; cases b <;> exact q'⟩
    | int i t => exact PySem.P.repr_of_int (by simpa [PyData.showable] using hs) ⟨.str _, H, I.tok _, ⟨_, rfl⟩, by simpa only [PyData.shown] using q⟩
    | str x t => exact PySem.P.repr_of_str ⟨.str _, H, I.tok _, ⟨_, rfl⟩, by simpa only [PyData.shown] using q⟩ (by simpa only [PyData.shown] using hz)
    | list a b c e => exact repr_of_reads' (Reads.list a b c e) hs h2 hg (by omega) (fun _ _ e => e) (fun h' u tk k => ⟨.str _, H, I.kept k, ⟨_, rfl⟩, q⟩) hz
    | tuple a b c e => exact repr_of_reads' (Reads.tuple a b c e) hs h2 hg (by omega) (fun _ _ e => e) (fun h' u tk k => ⟨.str _, H, I.kept k, ⟨_, rfl⟩, q⟩) hz
    | dict a b c e f => exact repr_of_reads' (Reads.dict a b c e f) hs h2 hg (by omega) (fun _ _ e => e) (fun h' u tk k => ⟨.str _, H, I.kept k, ⟨_, rfl⟩, q⟩) hz

theorem Rz.int (H : Hp) (i : Int) : Rz X H (.int i) (.int i) := by
  rintro pins σ s u I ⟨t, rfl⟩
  exact ⟨_, Reads.int i t, (fun z => nomatch z)⟩
theorem Rz.str (H : Hp) (x : Str) : Rz X H (.str x) (.str x) := by
  rintro pins σ s u I ⟨t, rfl⟩
  exact ⟨_, Reads.str x t, (fun z => nomatch z)⟩
theorem rz_all {H : Hp} : ∀ {vs : List V} {ds : List PyData}, Paired (Rz X H) vs ds → ∀ {pins σ s us}, Inv X pins σ H s → Vals vs us → ∃ as, ReadsAll s.heap us ds as ∧ sysModules ∉ as
  | _, _, .nil, _, _, _, _, _, .nil => ⟨_, ReadsAll.nil, (fun z => nomatch z)⟩
  | _, _, .cons h t, _, _, _, _, I, .cons r rs => by
    obtain ⟨as, a1, a2⟩ := h _ _ _ _ I r
    obtain ⟨bs, b1, b2⟩ := rz_all t I rs
    exact ⟨_, ReadsAll.cons a1 b1, fun z => (List.mem_append.mp z).elim a2 b2⟩
theorem Rz.tup {H : Hp} {a : Addr} {xs : List V} {ds : List PyData} (h : SqT X.K H a xs) (hs : Paired (Rz X H) xs ds) : Rz X H (.ref a) (.tuple ds) := by
  intro pins σ s u I r
  obtain rfl : u = Value.ref a := r
  obtain ⟨its, rv, ⟨o, ho, hc, n, hd⟩, _⟩ := I.tuple h
  obtain ⟨as, h1, h2⟩ := rz_all hs I rv
  exact ⟨_, Reads.tuple ho hc hd h1, h2⟩
end
end AW
namespace AW
open PySem PySem.Spec PyProof.Rows L2
section
variable {X : Cx}
def CPowW (i j : Int) : Prop := 0 ≤ j ∧ (Builtin.Int.intBits i : Int) * j ≤ 2 ^ 27
theorem op_powW : OpR X (binaryOp .Pow) (rI CPowW fun i j => .int (i ^ j.toNat)) := opI fun _ _ _ _ _ _ _ hc q => pow_int hc.1 hc.2 q
end
theorem bits_lt {z : Int} {n : Nat} (h : Builtin.Int.intBits z ≤ n) : z.natAbs < 2 ^ n := by
  unfold Builtin.Int.intBits at h
  by_cases e : z = 0
  · subst e
    exact Nat.pos_of_ne_zero (by simp)
  · rw [if_neg (by simpa using e)] at h
    have : z.natAbs ≠ 0 := by omega
    exact (Nat.log2_lt this).mp (by omega)
theorem seed_ok {z c : Int} (h0 : 0 ≤ z) (h1 : z ≤ 2147483629) (h2 : Builtin.Int.intBits c ≤ 1048576) : CPowW (z * 50021 + c) 3 := by
  refine ⟨by decide, ?_⟩
  have hc := bits_lt h2
  have h3 : (z * 50021 + c).natAbs < 2 ^ 1048577 := by
    have a : (z * 50021 + c).natAbs ≤ (z * 50021).natAbs + c.natAbs := Int.natAbs_add_le _ _
    have b : (z * 50021).natAbs ≤ 2 ^ 48 := by omega
    have d : (2 : Nat) ^ 48 ≤ 2 ^ 1048576 := Nat.pow_le_pow_right (by decide) (by decide)
    have e : (2 : Nat) ^ 1048577 = 2 ^ 1048576 + 2 ^ 1048576 := by rw [Nat.pow_succ]; omega
    omega
  have h4 := PyProof.Rows.intBits_le h3
  have e : (2 : Int) ^ 27 = 134217728 := by decide
  rw [e]
  omega
/-! ### what follows an if, shown once -/
def tMid (t u : TS) : TS := fun D σ H => ∃ M : L2.St → Hp → Prop, t { D with nx := M } σ H ∧ ∀ σ2 H2, M σ2 H2 → u D σ2 H2
theorem pss_mid {X : Cx} {st : Stmt} {r : List Stmt} {t u : TS} (a : PS X st t) (b : PSs X r u) : PSs X (st :: r) (tMid t u) := by
  constructor
  rintro pins s σ H D I ⟨M, h1, h2⟩
  apply wpAny_execs_cons
  refine thn (a.run pins s σ H _ I h1) ?_
  intro fl s2 z
  match fl, z with
  | .next, ⟨σ2, H2, I2, m⟩ => exact b.run pins s2 σ2 H2 D I2 (h2 σ2 H2 m)
  | .ret _, z => exact z
  | .brk, z => exact z
  | .cont, z => exact z
/-! ### the well -/
def WL (H : Hp) (a c : Addr) : Prop := a ≠ c ∧ ∃ (cs : List Int) (r s : Int), H a = some (.lst [.ref c, .int r, .int s]) ∧ H c = some (.lst (cs.map V.int))
/-- all but the well stands as it stood -/
def Kp (a c : Addr) (H H' : Hp) : Prop := ∀ b o, b ≠ a → b ≠ c → H b = some o → H' b = some o
theorem Kp.refl (a c : Addr) (H : Hp) : Kp a c H H := fun _ _ _ _ h => h
theorem Kp.trans {a c : Addr} {H H1 H2 : Hp} (h : Kp a c H H1) (k : Kp a c H1 H2) : Kp a c H H2 := fun b o n1 n2 e => k b o n1 n2 (h b o n1 n2 e)
theorem Kp.tup {a c : Addr} {H H' : Hp} (w : WL H a c) (k : Kp a c H H') {b : Addr} {xs : List V} (h : H b = some (.tup xs)) : H' b = some (.tup xs) := by
  obtain ⟨_, cs, r, s, e1, e2⟩ := w
  exact k b _ (ne_of h e1 (fun z => nomatch z)) (ne_of h e2 (fun z => nomatch z)) h
theorem Kp.same {a c : Addr} {H H1 H2 : Hp} (ha : H a = none) (hc : H c = none) (s : Same H H1) (k : Kp a c H1 H2) : Same H H2 := fun b o e => k b o (ne_of_none e ha) (ne_of_none e hc) (s b o e)
theorem same_new {H : Hp} {p : Addr} {o : HO} (h : H p = none) : Same H (upd H p o) := fun b x e => by
  rw [upd_ne (ne_of_none e h)]
  exact e
theorem WL.same {H H' : Hp} {a c : Addr} (w : WL H a c) (k : Same H H') : WL H' a c := by
  obtain ⟨n, cs, r, s, e1, e2⟩ := w
  exact ⟨n, cs, r, s, k _ _ e1, k _ _ e2⟩
theorem WL.ne_new {H : Hp} {a c p : Addr} (w : WL H a c) (h : H p = none) : p ≠ a ∧ p ≠ c := by
  obtain ⟨n, cs, r, s, e1, e2⟩ := w
  exact ⟨(ne_of_none e1 h).symm, (ne_of_none e2 h).symm⟩
theorem WL.upd {H : Hp} {a c p : Addr} {o : HO} (w : WL H a c) (h1 : p ≠ a) (h2 : p ≠ c) : WL (upd H p o) a c := by
  obtain ⟨n, cs, r, s, e1, e2⟩ := w
  exact ⟨n, cs, r, s, by rw [upd_ne h1.symm]; exact e1, by rw [upd_ne h2.symm]; exact e2⟩
theorem Same.kp {a c : Addr} {H H' : Hp} (s : Same H H') : Kp a c H H' := fun b o _ _ e => s b o e
theorem dp_ints {K : PySem.W.Frag} {H : Hp} : ∀ cs : List Int, DpAll K H (cs.map V.int) (cs.map PyData.int)
  | [] => .nil
  | c :: cs => .cons (.int c) (dp_ints cs)
theorem lay_ints : ∀ cs : List Int, PyData.canLayAll0 (cs.map PyData.int) = true ∧ PyData.depthAll (cs.map PyData.int) = 0
  | [] => ⟨by simp only [List.map_nil, PyData.canLayAll0], by simp only [List.map_nil, PyData.depthAll]⟩
  | c :: cs => by
    obtain ⟨h1, h2⟩ := lay_ints cs
    exact ⟨by simp only [List.map_cons, PyData.canLayAll0, PyData.canLay0, h1, Bool.and_self], by simp only [List.map_cons, PyData.depthAll, PyData.depth, h2, Nat.max_self]⟩
theorem shaped_ints (cs : List Int) : SeqAt.shaped (.list (cs.map PyData.int)) = true := by
  obtain ⟨h1, h2⟩ := lay_ints cs
  simp only [SeqAt.shaped, PyData.canLay0, PyData.depth, h1, h2, Bool.true_and]
  decide
theorem dp_strs {K : PySem.W.Frag} {H : Hp} : ∀ cs : List Str, DpAll K H (cs.map V.str) (cs.map PyData.str)
  | [] => .nil
  | c :: cs => .cons (.str c) (dp_strs cs)
theorem lay_strs : ∀ cs : List Str, (∀ x ∈ cs, PyData.strOk x = true) → PyData.canLayAll0 (cs.map PyData.str) = true ∧ PyData.depthAll (cs.map PyData.str) = 0
  | [], _ => ⟨by simp only [List.map_nil, PyData.canLayAll0], by simp only [List.map_nil, PyData.depthAll]⟩
  | c :: cs, h => by
    obtain ⟨h1, h2⟩ := lay_strs cs fun x hx => h x (List.mem_cons_of_mem _ hx)
    exact ⟨by simp only [List.map_cons, PyData.canLayAll0, PyData.canLay0, h1, h c List.mem_cons_self, Bool.and_self], by simp only [List.map_cons, PyData.depthAll, PyData.depth, h2, Nat.max_self]⟩
theorem shaped_strs (cs : List Str) (h : ∀ x ∈ cs, PyData.strOk x = true) : SeqAt.shaped (.list (cs.map PyData.str)) = true := by
  obtain ⟨h1, h2⟩ := lay_strs cs h
  simp only [SeqAt.shaped, PyData.canLay0, PyData.depth, h1, h2, Bool.true_and]
  decide
theorem seq0 (n : Nat) : seqIndex? 0 (n + 1) = some 0 := by
  unfold seqIndex?
  simp
/-! ### the words of deeds, deeds, rows -/
def fwL : List (Str × Int) := [("none", 0), ("one", 0), ("all", 0), ("not", 1), ("neg", 1), ("twice", 1), ("and", 2), ("or", 2), ("xor", 2), ("add", 2), ("sub", 2)]
theorem fw_ok : ∀ x ∈ fwL.map (·.1), PyData.strOk x = true := by decide +kernel
def fwK : List (Key × V) := fwL.map fun p => (Sum.inr p.1, .int p.2)
/-- a deed: its word and its numbers -/
abbrev Deed := Str × List Int
def dV (d : Deed) : List V := .str d.1 :: d.2.map V.int
theorem dv0 (d : Deed) : atI (dV d) 0 = some (.str d.1) := atI_nat (j := 0) rfl
theorem dvN {d : Deed} {k : Nat} {i : Int} (h : d.2[k]? = some i) : atI (dV d) ((k + 1 : Nat) : Int) = some (.int i) := atI_nat (by show (d.2.map V.int)[k]? = _; rw [List.getElem?_map, h]; rfl)
structure DeedOk (m : Int) (d : Deed) : Prop where
  word : (d.1, (d.2.length : Int)) ∈ fwL
  ahead : ∀ i ∈ d.2, 0 ≤ i ∧ i < m
theorem fw_at {z : Int} (h0 : 0 ≤ z) (h1 : z < 11) : ∃ x n, (x, n) ∈ fwL ∧ 0 ≤ n ∧ n ≤ 2 ∧ atI (fwK.map fun kv => kV kv.1) z = some (.str x) ∧ valV fwK (Sum.inr x) = some (.int n) := by
  obtain ⟨k, rfl⟩ := Int.eq_ofNat_of_zero_le h0
  have hk : k = 0 ∨ k = 1 ∨ k = 2 ∨ k = 3 ∨ k = 4 ∨ k = 5 ∨ k = 6 ∨ k = 7 ∨ k = 8 ∨ k = 9 ∨ k = 10 := by omega
  rcases hk with rfl | rfl | rfl | rfl | rfl | rfl | rfl | rfl | rfl | rfl | rfl
  · exact ⟨"none", 0, by decide +kernel, by decide, by decide, by decide +kernel, by decide +kernel⟩
  · exact ⟨"one", 0, by decide +kernel, by decide, by decide, by decide +kernel, by decide +kernel⟩
  · exact ⟨"all", 0, by decide +kernel, by decide, by decide, by decide +kernel, by decide +kernel⟩
  · exact ⟨"not", 1, by decide +kernel, by decide, by decide, by decide +kernel, by decide +kernel⟩
  · exact ⟨"neg", 1, by decide +kernel, by decide, by decide, by decide +kernel, by decide +kernel⟩
  · exact ⟨"twice", 1, by decide +kernel, by decide, by decide, by decide +kernel, by decide +kernel⟩
  · exact ⟨"and", 2, by decide +kernel, by decide, by decide, by decide +kernel, by decide +kernel⟩
  · exact ⟨"or", 2, by decide +kernel, by decide, by decide, by decide +kernel, by decide +kernel⟩
  · exact ⟨"xor", 2, by decide +kernel, by decide, by decide, by decide +kernel, by decide +kernel⟩
  · exact ⟨"add", 2, by decide +kernel, by decide, by decide, by decide +kernel, by decide +kernel⟩
  · exact ⟨"sub", 2, by decide +kernel, by decide, by decide, by decide +kernel, by decide +kernel⟩
theorem awSnoc {α β : Type} {F : α → β → Prop} {x : α} {y : β} (h : F x y) : ∀ {l : List α} {l2 : List β}, Paired F l l2 → Paired F (l ++ [x]) (l2 ++ [y])
  | _, _, .nil => .cons h .nil
  | _, _, .cons r t => .cons r (awSnoc h t)
theorem awMap {α β : Type} {F G : α → β → Prop} (f : ∀ a b, F a b → G a b) : ∀ {l : List α} {l2 : List β}, Paired F l l2 → Paired G l l2
  | _, _, .nil => .nil
  | _, _, .cons r t => .cons (f _ _ r) (awMap f t)
theorem awLen {α β : Type} {F : α → β → Prop} : ∀ {l : List α} {l2 : List β}, Paired F l l2 → l.length = l2.length
  | _, _, .nil => rfl
  | _, _, .cons _ t => congrArg (· + 1) (awLen t)
theorem awGet {α β : Type} {F : α → β → Prop} : ∀ {l : List α} {l2 : List β} {i : Nat} {x : α}, Paired F l l2 → l[i]? = some x → ∃ y, l2[i]? = some y ∧ F x y
  | _, _, _, _, .nil, e => by simp at e
  | _, _, 0, _, .cons r _, e => by
    simp only [List.getElem?_cons_zero, Option.some.injEq] at e
    subst e
    exact ⟨_, rfl, r⟩
  | _, _, i + 1, x, .cons _ t, e => by
    simp only [List.getElem?_cons_succ] at e ⊢
    exact awGet t e
theorem awGet2 {α β : Type} {F : α → β → Prop} {l : List α} {l2 : List β} {i : Nat} {y : β} (h : Paired F l l2) (e : l2[i]? = some y) : ∃ x, l[i]? = some x ∧ F x y := by
  have hi : i < l.length := by
    rw [awLen h]
    exact (List.getElem?_eq_some_iff.mp e).1
  obtain ⟨y2, e2, f⟩ := awGet h (List.getElem?_eq_getElem hi)
  rw [e] at e2
  obtain rfl := Option.some.inj e2
  exact ⟨_, List.getElem?_eq_getElem hi, f⟩
/-- deeds that stand in the heap as tuples -/
abbrev DsAt (H : Hp) : List Addr → List Deed → Prop := Paired fun r d => H r = some (.tup (dV d))
def RowAt (H : Hp) (R : Addr) (m : Int) (ds : List Deed) (o : Int) : Prop := ∃ D rs, H R = some (.tup [.int m, .ref D, .int o]) ∧ H D = some (.tup (rs.map V.ref)) ∧ DsAt H rs ds
structure DsOk (m : Int) (ds : List Deed) : Prop where
  each : ∀ (k : Nat) d, ds[k]? = some d → DeedOk (m + k) d
structure RowOk (m : Int) (ds : List Deed) (o : Int) : Prop where
  m1 : 1 ≤ m
  m3 : m ≤ 3
  len : ds.length ≤ 8
  deeds : DsOk m ds
  o0 : 0 ≤ o
  o1 : o < m + ds.length
/-- all tuples stand -/
def TupsStay (H H' : Hp) : Prop := ∀ b xs, H b = some (.tup xs) → H' b = some (.tup xs)
theorem Same.tups {H H' : Hp} (s : Same H H') : TupsStay H H' := fun b xs e => s b _ e
theorem Kp.tups {a c : Addr} {H H' : Hp} (k : Kp a c H H') (w : WL H a c) : TupsStay H H' := fun b xs e => k.tup w e
theorem TupsStay.trans {H H1 H2 : Hp} (a : TupsStay H H1) (b : TupsStay H1 H2) : TupsStay H H2 := fun c xs e => b c xs (a c xs e)
theorem tups_put {H : Hp} {l : Addr} {xs : List V} {o : HO} (h : H l = some (.lst xs)) : TupsStay H (upd H l o) := fun b ys e => by
  rw [upd_ne (ne_of e h (fun z => nomatch z))]
  exact e
theorem TupsStay.ds {H H' : Hp} (t : TupsStay H H') {rs : List Addr} {ds : List Deed} (h : DsAt H rs ds) : DsAt H' rs ds := awMap (fun r d e => t r _ e) h
theorem TupsStay.row {H H' : Hp} (t : TupsStay H H') {R : Addr} {m o : Int} {ds : List Deed} (h : RowAt H R m ds o) : RowAt H' R m ds o := by
  obtain ⟨D, rs, e1, e2, e3⟩ := h
  exact ⟨D, rs, t _ _ e1, t _ _ e2, t.ds e3⟩
theorem dsOk_snoc {m : Int} {ds : List Deed} {d : Deed} (h : DsOk m ds) (k : DeedOk (m + ds.length) d) : DsOk m (ds ++ [d]) := by
  constructor
  intro i d' e
  by_cases hi : i < ds.length
  · rw [List.getElem?_append_left hi] at e
    exact h.each i d' e
  · rw [List.getElem?_append_right (by omega)] at e
    obtain ⟨h1, h2⟩ := List.getElem?_eq_some_iff.mp e
    have h3 : i = ds.length := by simp only [List.length_cons, List.length_nil] at h1; omega
    subst h3
    simp at h2
    subst h2
    exact k
/-! ### data that is shown in few signs -/
structure Nice (b k : Nat) (d : PyData) : Prop where
  sh : d.showable = true
  lv : d.leavesShort 21 = true
  bk : d.bulk ≤ b
  dp : d.depth ≤ k
theorem Nice.fits {b k : Nat} {d : PyData} (h : Nice b k d) (hb : b ≤ 100000) : d.shown.length ≤ sizeLine := by
  have h1 := PyData.shown_le_bulk 21 (by decide) d h.lv
  have h2 := h.bk
  rw [sizeLine_eq]
  omega
theorem Nice.mono {b b2 k k2 : Nat} {d : PyData} (h : Nice b k d) (hb : b ≤ b2) (hk : k ≤ k2) : Nice b2 k2 d := ⟨h.sh, h.lv, Nat.le_trans h.bk hb, Nat.le_trans h.dp hk⟩
theorem nice_int {i : Int} (h : i.natAbs < 10 ^ 20) : Nice 0 0 (.int i) := by
  refine ⟨?_, ?_, ?_, ?_⟩
  · simp only [PyData.showable, decide_eq_true_eq]
    have : i.natAbs < 2 ^ 70 := Nat.lt_trans h (by decide)
    by_cases e : i.natAbs = 0
    · rw [e]; decide
    · have := (Nat.log2_lt e).mpr this
      omega
  · simp only [PyData.leavesShort, decide_eq_true_eq]
    have e := int_text_length_le10 (k := 20) (by decide) h
    simp only [PyData.shown]
    rw [PySem.ofString_length]
    exact e
  · simp only [PyData.bulk, Nat.le_refl]
  · simp only [PyData.depth, Nat.le_refl]
theorem nice_str {x : Str} {n : Nat} (h : x.cps.size ≤ n) (hx : (x.cps.toList.all fun c => decide (c < 16 ^ 8)) = true) : Nice n 0 (.str x) := by
  refine ⟨?_, ?_, ?_, ?_⟩
  · simp only [PyData.showable]
  · simp only [PyData.leavesShort]
    exact hx
  · simp only [PyData.bulk]
    exact h
  · simp only [PyData.depth, Nat.le_refl]
theorem nice_all {b k : Nat} : ∀ {xs : List PyData}, (∀ x ∈ xs, Nice b k x) → PyData.showableAll xs = true ∧ PyData.leavesShortAll 21 xs = true ∧ PyData.bulkAll xs ≤ xs.length * (b + 1) ∧ PyData.depthAll xs ≤ k
  | [], _ => ⟨by simp only [PyData.showableAll], by simp only [PyData.leavesShortAll], by simp only [PyData.bulkAll, Nat.zero_le], by simp only [PyData.depthAll, Nat.zero_le]⟩
  | x :: xs, h => by
    obtain ⟨h1, h2, h3, h4⟩ := nice_all fun y hy => h y (List.mem_cons_of_mem _ hy)
    obtain ⟨g1, g2, g3, g4⟩ := h x List.mem_cons_self
    refine ⟨by simp only [PyData.showableAll, g1, h1, Bool.and_self], by simp only [PyData.leavesShortAll, g2, h2, Bool.and_self], ?_, ?_⟩
    · simp only [PyData.bulkAll, List.length_cons, Nat.add_mul, Nat.one_mul]
      omega
    · simp only [PyData.depthAll]
      omega
theorem nice_tup {b k n : Nat} {xs : List PyData} (h : ∀ x ∈ xs, Nice b k x) (hn : xs.length * (b + 1) ≤ n) : Nice n (k + 1) (.tuple xs) := by
  obtain ⟨h1, h2, h3, h4⟩ := nice_all h
  exact ⟨by simpa only [PyData.showable] using h1, by simpa only [PyData.leavesShort] using h2, by simp only [PyData.bulk]; omega, by simp only [PyData.depth]; omega⟩
theorem nice_lst {b k n : Nat} {xs : List PyData} (h : ∀ x ∈ xs, Nice b k x) (hn : xs.length * (b + 1) ≤ n) : Nice n (k + 1) (.list xs) := by
  obtain ⟨h1, h2, h3, h4⟩ := nice_all h
  exact ⟨by simpa only [PyData.showable] using h1, by simpa only [PyData.leavesShort] using h2, by simp only [PyData.bulk]; omega, by simp only [PyData.depth]; omega⟩
def deedD (d : Deed) : PyData := .tuple (.str d.1 :: d.2.map PyData.int)
def rowD (m : Int) (ds : List Deed) (o : Int) : PyData := .tuple [.int m, .tuple (ds.map deedD), .int o]
theorem fw_short : ∀ p ∈ fwL, p.1.cps.size ≤ 5 ∧ (p.1.cps.toList.all fun c => decide (c < 16 ^ 8)) = true ∧ p.2 ≤ 2 := by decide +kernel
theorem nice_deed {m : Int} {d : Deed} (h : DeedOk m d) (hm : m ≤ 100) : Nice 18 1 (deedD d) := by
  obtain ⟨h1, h2, h3⟩ := fw_short _ h.word
  refine nice_tup (b := 5) (k := 0) (fun x hx => ?_) ?_
  · rcases List.mem_cons.mp hx with rfl | hx
    · exact nice_str h1 h2
    · obtain ⟨i, hi, rfl⟩ := List.mem_map.mp hx
      obtain ⟨i0, i1⟩ := h.ahead i hi
      exact (nice_int (by omega)).mono (by decide) (by decide)
  · rw [List.length_cons, List.length_map]
    have : (d.2.length : Int) ≤ 2 := h3
    omega
theorem nice_row {m o : Int} {ds : List Deed} (h : RowOk m ds o) : Nice 459 3 (rowD m ds o) := by
  have hm := h.m1
  have hm3 := h.m3
  have hl := h.len
  have ho := h.o0
  have ho1 := h.o1
  refine nice_tup (b := 152) (k := 2) (fun x hx => ?_) (by simp only [List.length_cons, List.length_nil]; decide)
  simp only [List.mem_cons, List.not_mem_nil, or_false] at hx
  rcases hx with rfl | rfl | rfl
  · exact (nice_int (by omega)).mono (by decide) (by decide)
  · refine nice_tup (b := 18) (k := 1) (fun x hx => ?_) ?_
    · obtain ⟨d, hd, rfl⟩ := List.mem_map.mp hx
      obtain ⟨k, hk⟩ := List.mem_iff_getElem?.mp hd
      have hk1 := (List.getElem?_eq_some_iff.mp hk).1
      exact nice_deed (h.deeds.each k d hk) (by omega)
    · rw [List.length_map]
      omega
  · exact (nice_int (by omega)).mono (by decide) (by decide)
/-! ### what the row reads -/
section
variable {X : Cx}
theorem rz_ints (H : Hp) : ∀ l : List Int, Paired (Rz X H) (l.map V.int) (l.map PyData.int)
  | [] => .nil
  | i :: l => .cons (Rz.int H i) (rz_ints H l)
theorem rz_deed {H : Hp} {r : Addr} {d : Deed} (h : H r = some (.tup (dV d))) : Rz X H (.ref r) (deedD d) := Rz.tup (SqT.of h) (.cons (Rz.str H _) (rz_ints H _))
theorem rz_deeds {H : Hp} : ∀ {rs : List Addr} {ds : List Deed}, DsAt H rs ds → Paired (Rz X H) (rs.map V.ref) (ds.map deedD)
  | _, _, .nil => .nil
  | _, _, .cons h t => .cons (rz_deed h) (rz_deeds t)
theorem rz_row {H : Hp} {R : Addr} {m o : Int} {ds : List Deed} (h : RowAt H R m ds o) : Rz X H (.ref R) (rowD m ds o) := by
  obtain ⟨D, rs, e1, e2, e3⟩ := h
  exact Rz.tup (SqT.of e1) (.cons (Rz.int H m) (.cons (Rz.tup (SqT.of e2) (rz_deeds e3)) (.cons (Rz.int H o) .nil)))
/-- a dict of texts and ints -/
abbrev siK (es : List (Str × Int)) : List (Key × V) := es.map fun p => (Sum.inr p.1, .int p.2)
theorem si_reads {prog : Program} {w : World} {h : Heap} : ∀ (es : List (Str × Int)) (vs : List (Key × Value)) (en : List DictEntry), KV (siK es) vs → Pairs (mixKind prog w) en vs →
    ReadsAll h (en.map (·.key)) ((es.map fun p => (PyData.str p.1, PyData.int p.2)).map (·.1)) [] ∧ ReadsAll h (en.map (·.val)) ((es.map fun p => (PyData.str p.1, PyData.int p.2)).map (·.2)) []
  | [], _, _, .nil, .nil => ⟨.nil, .nil⟩
  | (x, i) :: es, _, _, .cons hh t, .cons hk hv hp => by
    obtain ⟨h1, h2⟩ := si_reads es _ _ t hp
    obtain ⟨k1, t1, e1⟩ := hh
    rw [← k1] at hk
    obtain ⟨t2, e2⟩ := Value.isStrOf_shape (x := x) hk
    refine ⟨?_, ?_⟩
    · simp only [List.map_cons]
      rw [e2]
      exact ReadsAll.cons (as := []) (Reads.str x t2) h1
    · simp only [List.map_cons]
      rw [hv, e1]
      exact ReadsAll.cons (as := []) (Reads.int i t1) h2
theorem rz_dict {H : Hp} {C : Addr} {es : List (Str × Int)} (h : H C = some (.dK (siK es))) : Rz X H (.ref C) (.dict (es.map fun p => (PyData.str p.1, PyData.int p.2))) := by
  intro pins σ s u I r
  obtain rfl : u = Value.ref C := r
  obtain ⟨_, hs, vs, hkv, o, en, ep, e1, e2, e3, e4, e5, e6⟩ := I.hok C _ h
  obtain ⟨r1, r2⟩ := si_reads (prog := X.prog) (w := X.w) (h := s.heap) es vs _ hkv e5
  refine ⟨_, Reads.dict e1 e2.1 e3 r1 r2, ?_⟩
  intro z
  simp only [List.append_nil, List.mem_cons, List.not_mem_nil, or_false] at z
  rw [← z] at hs
  simp at hs
end
theorem nice_dict {n : Nat} : ∀ {es : List (Str × Int)}, (∀ p ∈ es, p.1.cps.size ≤ 5 ∧ (p.1.cps.toList.all fun c => decide (c < 16 ^ 8)) = true ∧ p.2.natAbs < 10 ^ 20) → es.length * 7 ≤ n →
    Nice n 1 (.dict (es.map fun p => (PyData.str p.1, PyData.int p.2))) := by
  intro es h hn
  have key : ∀ es : List (Str × Int), (∀ p ∈ es, p.1.cps.size ≤ 5 ∧ (p.1.cps.toList.all fun c => decide (c < 16 ^ 8)) = true ∧ p.2.natAbs < 10 ^ 20) →
      PyData.showableKv (es.map fun p => (PyData.str p.1, PyData.int p.2)) = true ∧ PyData.leavesShortKv 21 (es.map fun p => (PyData.str p.1, PyData.int p.2)) = true ∧ PyData.bulkKv (es.map fun p => (PyData.str p.1, PyData.int p.2)) ≤ es.length * 7 ∧ PyData.depthKv (es.map fun p => (PyData.str p.1, PyData.int p.2)) = 0 := by
    intro es
    induction es with
    | nil => intro _; exact ⟨by simp only [List.map_nil, PyData.showableKv], by simp only [List.map_nil, PyData.leavesShortKv], by simp only [List.map_nil, PyData.bulkKv, Nat.zero_le], by simp only [List.map_nil, PyData.depthKv]⟩
    | cons p es ih =>
      intro h
      obtain ⟨h1, h2, h3, h4⟩ := ih fun q hq => h q (List.mem_cons_of_mem _ hq)
      obtain ⟨a, b, c⟩ := h p List.mem_cons_self
      obtain ⟨i1, i2, i3, i4⟩ := nice_int c
      obtain ⟨s1, s2, s3, s4⟩ := nice_str a b
      refine ⟨by simp only [List.map_cons, PyData.showableKv, i1, s1, h1, Bool.and_self], by simp only [List.map_cons, PyData.leavesShortKv, i2, s2, h2, Bool.and_self], ?_, ?_⟩
      · simp only [List.map_cons, PyData.bulkKv, List.length_cons]
        omega
      · simp only [List.map_cons, PyData.depthKv]
        omega
  obtain ⟨h1, h2, h3, h4⟩ := key es h
  exact ⟨by simpa only [PyData.showable] using h1, by simpa only [PyData.leavesShort] using h2, by simp only [PyData.bulk]; omega, by simp only [PyData.depth]; omega⟩
/-! ### values of rows -/
theorem strEq {x y : Str} (h : decide (V.str x = V.str y) = true) : x = y := V.str.inj (of_decide_eq_true h)
theorem strNe {x y : Str} (h : ¬ decide (V.str x = V.str y) = true) : ¬ x = y := fun e => h (decide_eq_true (congrArg V.str e))
def argAt (d : Deed) (told : List Int) (k : Nat) : Int := told.getD (d.2.getD k 0).toNat 0
def dvalue (x : Str) (A B size : Int) : Int :=
  if x = "none" then 0 else if x = "one" then 1 else if x = "all" then size - 1 else if x = "not" then size - 1 - A else if x = "neg" then -A else if x = "twice" then A + A
  else if x = "and" then Builtin.bitAnd A B else if x = "or" then Builtin.bitOr A B else if x = "xor" then Builtin.bitXor A B else if x = "add" then A + B else A - B
def dval (size : Int) (d : Deed) (told : List Int) : Int := dvalue d.1 (argAt d told 0) (argAt d told 1) size % size
def vals (size : Int) : List Deed → List Int → List Int
  | [], told => told
  | d :: ds, told => vals size ds (told ++ [dval size d told])
theorem vals_append (size : Int) : ∀ (l1 l2 : List Deed) (t : List Int), vals size (l1 ++ l2) t = vals size l2 (vals size l1 t)
  | [], _, _ => rfl
  | d :: l1, l2, t => vals_append size l1 l2 (t ++ [dval size d t])
theorem vals_len {size : Int} : ∀ (ds : List Deed) (t : List Int), (vals size ds t).length = t.length + ds.length
  | [], _ => rfl
  | d :: ds, t => by
    show (vals size ds (t ++ [dval size d t])).length = _
    rw [vals_len ds, List.length_append, List.length_cons, List.length_cons, List.length_nil]
    omega
theorem vals_next {size : Int} {ds : List Deed} {i : Nat} {d : Deed} {t : List Int} (h : ds[i]? = some d) : vals size (ds.take (i + 1)) t = vals size (ds.take i) t ++ [dval size d (vals size (ds.take i) t)] := by
  rw [List.take_add_one, h, vals_append]
  rfl
theorem atI_ints {l : List Int} {o : Int} (h0 : 0 ≤ o) (h1 : o < l.length) : atI (l.map V.int) o = some (.int (l.getD o.toNat 0)) := by
  obtain ⟨k, rfl⟩ := Int.eq_ofNat_of_zero_le h0
  have hk : k < l.length := by omega
  apply atI_nat
  rw [List.getElem?_map, List.getElem?_eq_getElem hk, Int.toNat_natCast, List.getD_eq_getElem?_getD, List.getElem?_eq_getElem hk]
  rfl
theorem fw_one : ∀ p ∈ fwL, ¬ p.1 = "none" → ¬ p.1 = "one" → ¬ p.1 = "all" → 1 ≤ p.2 := by decide +kernel
theorem fw_two' : ∀ p ∈ fwL, (decide (p.1 ∈ (["none", "one", "all", "not", "neg", "twice"] : List Str)) || decide (2 ≤ p.2)) = true := by decide +kernel
theorem fw_two (p : Str × Int) (h : p ∈ fwL) (n1 : ¬ p.1 = "none") (n2 : ¬ p.1 = "one") (n3 : ¬ p.1 = "all") (n4 : ¬ p.1 = "not") (n5 : ¬ p.1 = "neg") (n6 : ¬ p.1 = "twice") : 2 ≤ p.2 := by
  have e := fw_two' p h
  rw [Bool.or_eq_true] at e
  rcases e with e | e
  · have e2 := of_decide_eq_true e
    simp only [List.mem_cons, List.not_mem_nil, or_false] at e2
    rcases e2 with e2 | e2 | e2 | e2 | e2 | e2
    · exact absurd e2 n1
    · exact absurd e2 n2
    · exact absurd e2 n3
    · exact absurd e2 n4
    · exact absurd e2 n5
    · exact absurd e2 n6
  · exact of_decide_eq_true e
theorem arg_of {d : Deed} {told : List Int} (h : DeedOk told.length d) {k : Nat} (hk : k < d.2.length) : ∃ i, d.2[k]? = some i ∧ 0 ≤ i ∧ atI (told.map V.int) i = some (.int (argAt d told k)) := by
  have hg := List.getElem?_eq_getElem hk
  obtain ⟨i0, i1⟩ := h.ahead _ (List.getElem_mem hk)
  refine ⟨d.2[k], hg, i0, ?_⟩
  rw [atI_ints i0 i1]
  unfold argAt
  rw [List.getD_eq_getElem?_getD (l := d.2), hg]
  rfl
theorem arg1 {d : Deed} {told : List Int} (h : DeedOk told.length d) (n1 : ¬ d.1 = "none") (n2 : ¬ d.1 = "one") (n3 : ¬ d.1 = "all") : ∃ i, d.2[0]? = some i ∧ 0 ≤ i ∧ atI (told.map V.int) i = some (.int (argAt d told 0)) :=
  arg_of h (by have := fw_one _ h.word n1 n2 n3; show 0 < d.2.length; have e : (1 : Int) ≤ (d.2.length : Int) := this; omega)
theorem arg2 {d : Deed} {told : List Int} (h : DeedOk told.length d) (n1 : ¬ d.1 = "none") (n2 : ¬ d.1 = "one") (n3 : ¬ d.1 = "all") (n4 : ¬ d.1 = "not") (n5 : ¬ d.1 = "neg") (n6 : ¬ d.1 = "twice") :
    ∃ i, d.2[1]? = some i ∧ 0 ≤ i ∧ atI (told.map V.int) i = some (.int (argAt d told 1)) :=
  arg_of h (by have := fw_two _ h.word n1 n2 n3 n4 n5 n6; show 1 < d.2.length; have e : (2 : Int) ≤ (d.2.length : Int) := this; omega)
/-! ### the low bits of values -/
theorem pw_cast (n : Nat) : (2 : Int) ^ n = ((2 ^ n : Nat) : Int) := (PySem.W.kbt_cast n).symm
theorem pw_le {n k : Nat} (h : n ≤ k) : (2 : Int) ^ n ≤ 2 ^ k := by
  rw [pw_cast, pw_cast]
  exact Int.ofNat_le.mpr (Nat.pow_le_pow_right (by decide) h)
theorem pw_pos (n : Nat) : (0 : Int) < 2 ^ n := Int.pow_pos (by decide)
theorem castMod (a n : Nat) : ((a : Int) % 2 ^ n) = ((a % 2 ^ n : Nat) : Int) := by rw [pw_cast, Int.natCast_emod]
theorem low_and {A B : Int} (n : Nat) (ha : 0 ≤ A) (hb : 0 ≤ B) : Builtin.bitAnd (A % 2 ^ n) (B % 2 ^ n) % 2 ^ n = Builtin.bitAnd A B % 2 ^ n := by
  obtain ⟨a, rfl⟩ := Int.eq_ofNat_of_zero_le ha
  obtain ⟨b, rfl⟩ := Int.eq_ofNat_of_zero_le hb
  rw [castMod, castMod, bitAnd_pp (Int.natCast_nonneg _) (Int.natCast_nonneg _), bitAnd_pp (Int.natCast_nonneg _) (Int.natCast_nonneg _), castMod, castMod]
  simp only [Int.toNat_natCast]
  rw [Nat.and_mod_two_pow, Nat.and_mod_two_pow, Nat.mod_mod, Nat.mod_mod]
theorem low_or {A B : Int} (n : Nat) (ha : 0 ≤ A) (hb : 0 ≤ B) : Builtin.bitOr (A % 2 ^ n) (B % 2 ^ n) % 2 ^ n = Builtin.bitOr A B % 2 ^ n := by
  obtain ⟨a, rfl⟩ := Int.eq_ofNat_of_zero_le ha
  obtain ⟨b, rfl⟩ := Int.eq_ofNat_of_zero_le hb
  rw [castMod, castMod, bitOr_nn (Int.natCast_nonneg _) (Int.natCast_nonneg _), bitOr_nn (Int.natCast_nonneg _) (Int.natCast_nonneg _), castMod, castMod]
  simp only [Int.toNat_natCast]
  rw [Nat.or_mod_two_pow, Nat.or_mod_two_pow, Nat.mod_mod, Nat.mod_mod]
theorem low_xor {A B : Int} (n : Nat) (ha : 0 ≤ A) (hb : 0 ≤ B) : Builtin.bitXor (A % 2 ^ n) (B % 2 ^ n) % 2 ^ n = Builtin.bitXor A B % 2 ^ n := by
  obtain ⟨a, rfl⟩ := Int.eq_ofNat_of_zero_le ha
  obtain ⟨b, rfl⟩ := Int.eq_ofNat_of_zero_le hb
  rw [castMod, castMod, Bits.bitXor_pp (Int.natCast_nonneg _) (Int.natCast_nonneg _), Bits.bitXor_pp (Int.natCast_nonneg _) (Int.natCast_nonneg _), castMod, castMod]
  simp only [Int.toNat_natCast]
  rw [Nat.xor_mod_two_pow, Nat.xor_mod_two_pow, Nat.mod_mod, Nat.mod_mod]
theorem pw_dvd {n k : Nat} (h : n ≤ k) : (2 : Int) ^ n ∣ 2 ^ k := ⟨2 ^ (k - n), by rw [← Int.pow_add]; congr 1; omega⟩
theorem emod_same {a b m : Int} (k : Int) (h : a - b = m * k) : a % m = b % m := Int.emod_eq_emod_iff_emod_sub_eq_zero.mpr (by rw [h]; exact Int.mul_emod_right m k)
theorem dvalue_low' {x : Str} {N c qa qb ra rb A B : Int} (ea : N * qa + ra = A) (eb : N * qb + rb = B) (l1 : Builtin.bitAnd ra rb % N = Builtin.bitAnd A B % N) (l2 : Builtin.bitOr ra rb % N = Builtin.bitOr A B % N)
    (l3 : Builtin.bitXor ra rb % N = Builtin.bitXor A B % N) : dvalue x ra rb N % N = dvalue x A B (N * c) % N := by
  unfold dvalue
  by_cases h1 : x = "none"
  · rw [if_pos h1, if_pos h1]
  rw [if_neg h1, if_neg h1]
  by_cases h2 : x = "one"
  · rw [if_pos h2, if_pos h2]
  rw [if_neg h2, if_neg h2]
  by_cases h3 : x = "all"
  · rw [if_pos h3, if_pos h3]
    exact emod_same (1 - c) (by rw [Int.mul_sub, Int.mul_one]; omega)
  rw [if_neg h3, if_neg h3]
  by_cases h4 : x = "not"
  · rw [if_pos h4, if_pos h4]
    exact emod_same (1 - c + qa) (by rw [Int.mul_add, Int.mul_sub, Int.mul_one]; omega)
  rw [if_neg h4, if_neg h4]
  by_cases h5 : x = "neg"
  · rw [if_pos h5, if_pos h5]
    exact emod_same qa (by omega)
  rw [if_neg h5, if_neg h5]
  by_cases h6 : x = "twice"
  · rw [if_pos h6, if_pos h6]
    exact emod_same (-qa - qa) (by rw [Int.mul_sub, Int.mul_neg]; omega)
  rw [if_neg h6, if_neg h6]
  by_cases h7 : x = "and"
  · rw [if_pos h7, if_pos h7]
    exact l1
  rw [if_neg h7, if_neg h7]
  by_cases h8 : x = "or"
  · rw [if_pos h8, if_pos h8]
    exact l2
  rw [if_neg h8, if_neg h8]
  by_cases h9 : x = "xor"
  · rw [if_pos h9, if_pos h9]
    exact l3
  rw [if_neg h9, if_neg h9]
  by_cases h10 : x = "add"
  · rw [if_pos h10, if_pos h10]
    exact emod_same (-qa - qb) (by rw [Int.mul_sub, Int.mul_neg]; omega)
  rw [if_neg h10, if_neg h10]
  exact emod_same (qb - qa) (by rw [Int.mul_sub]; omega)
theorem dvalue_low {x : Str} {A B : Int} {n k : Nat} (hA : 0 ≤ A) (hB : 0 ≤ B) (h : n ≤ k) : dvalue x (A % 2 ^ n) (B % 2 ^ n) (2 ^ n) % 2 ^ n = dvalue x A B (2 ^ k) % 2 ^ n := by
  obtain ⟨c, hc⟩ := pw_dvd h
  rw [hc]
  exact dvalue_low' (Int.mul_ediv_add_emod A (2 ^ n)) (Int.mul_ediv_add_emod B (2 ^ n)) (low_and n hA hB) (low_or n hA hB) (low_xor n hA hB)
theorem getD_low (N : Int) (l : List Int) (i : Nat) : (l.map (· % N)).getD i 0 = l.getD i 0 % N := by
  rw [List.getD_eq_getElem?_getD, List.getD_eq_getElem?_getD, List.getElem?_map]
  cases l[i]? with
  | none => exact (Int.zero_emod N).symm
  | some y => rfl
theorem arg_nn {told : List Int} (h : ∀ x ∈ told, 0 ≤ x) (d : Deed) (j : Nat) : 0 ≤ argAt d told j := by
  unfold argAt
  rw [List.getD_eq_getElem?_getD]
  cases e : told[(d.2.getD j 0).toNat]? with
  | none => exact Int.le_refl 0
  | some y => exact h y (List.mem_of_getElem? e)
theorem dval_low {d : Deed} {told : List Int} {n k : Nat} (h : ∀ x ∈ told, 0 ≤ x) (hk : n ≤ k) : dval (2 ^ n) d (told.map (· % 2 ^ n)) = dval (2 ^ k) d told % 2 ^ n := by
  unfold dval
  have e : ∀ j, argAt d (told.map (· % 2 ^ n)) j = argAt d told j % 2 ^ n := fun j => getD_low _ _ _
  rw [e, e, dvalue_low (arg_nn h d 0) (arg_nn h d 1) hk, Int.emod_emod_of_dvd _ (pw_dvd hk)]
theorem vals_low {n k : Nat} (hk : n ≤ k) : ∀ (ds : List Deed) (told : List Int), (∀ x ∈ told, 0 ≤ x) → vals (2 ^ n) ds (told.map (· % 2 ^ n)) = (vals (2 ^ k) ds told).map (· % 2 ^ n)
  | [], _, _ => rfl
  | d :: ds, told, h => by
    show vals (2 ^ n) ds (told.map (· % 2 ^ n) ++ [dval (2 ^ n) d (told.map (· % 2 ^ n))]) = (vals (2 ^ k) ds (told ++ [dval (2 ^ k) d told])).map (· % 2 ^ n)
    rw [dval_low h hk, ← vals_low hk ds, List.map_append]
    · rfl
    · intro x hx
      rcases List.mem_append.mp hx with hx | hx
      · exact h x hx
      · rw [List.mem_singleton.mp hx]
        exact Int.emod_nonneg _ (by have := pw_pos k; omega)
theorem vals_range {size : Int} (hs : 0 < size) : ∀ (ds : List Deed) (told : List Int), (∀ x ∈ told, 0 ≤ x ∧ x < size) → ∀ x ∈ vals size ds told, 0 ≤ x ∧ x < size
  | [], _, h => h
  | d :: ds, told, h => by
    refine vals_range hs ds (told ++ [dval size d told]) fun x hx => ?_
    rcases List.mem_append.mp hx with hx | hx
    · exact h x hx
    · rw [List.mem_singleton.mp hx]
      exact ⟨Int.emod_nonneg _ (by omega), Int.emod_lt_of_pos _ hs⟩
/-! ### lists of ints compared -/
theorem eqv_ints : ∀ l : List Int, PyData.eqv (.list (l.map PyData.int)) (.list (l.map PyData.int)) = true := fun l => SeqAt.eqv_refl _ (SeqAt.canLay_of_shaped (shaped_ints l))
theorem dget_at {H : Hp} {a : Addr} {kvs : List (Key × V)} {k : Key} {v : V} (e : H a = some (.dK kvs)) (h : valV kvs k = some v) : DGet H a (kV k) (some v) := h ▸ DGet.k e
theorem fw_cases {x : Str} {n : Nat} (h : (x, (n : Int)) ∈ fwL) : (n = 0 ∧ (x = "none" ∨ x = "one" ∨ x = "all")) ∨ (n = 1 ∧ (x = "not" ∨ x = "neg" ∨ x = "twice")) ∨ (n = 2 ∧ (x = "and" ∨ x = "or" ∨ x = "xor" ∨ x = "add" ∨ x = "sub")) := by
  unfold fwL at h
  simp only [List.mem_cons, List.not_mem_nil, or_false, Prod.mk.injEq] at h
  rcases h with h | h | h | h | h | h | h | h | h | h | h
  · exact .inl ⟨by omega, .inl h.1⟩
  · exact .inl ⟨by omega, .inr (.inl h.1)⟩
  · exact .inl ⟨by omega, .inr (.inr h.1)⟩
  · exact .inr (.inl ⟨by omega, .inl h.1⟩)
  · exact .inr (.inl ⟨by omega, .inr (.inl h.1)⟩)
  · exact .inr (.inl ⟨by omega, .inr (.inr h.1)⟩)
  · exact .inr (.inr ⟨by omega, .inl h.1⟩)
  · exact .inr (.inr ⟨by omega, .inr (.inl h.1)⟩)
  · exact .inr (.inr ⟨by omega, .inr (.inr (.inl h.1))⟩)
  · exact .inr (.inr ⟨by omega, .inr (.inr (.inr (.inl h.1)))⟩)
  · exact .inr (.inr ⟨by omega, .inr (.inr (.inr (.inr h.1)))⟩)
theorem and_lt {A B : Int} {n : Nat} (a0 : 0 ≤ A) (a1 : A < 2 ^ n) (b0 : 0 ≤ B) : Builtin.bitAnd A B % 2 ^ n = Builtin.bitAnd A B := by
  obtain ⟨a, rfl⟩ := Int.eq_ofNat_of_zero_le a0
  obtain ⟨b, rfl⟩ := Int.eq_ofNat_of_zero_le b0
  rw [bitAnd_pp (Int.natCast_nonneg _) (Int.natCast_nonneg _), castMod]
  rw [pw_cast] at a1
  simp only [Int.toNat_natCast]
  rw [Nat.mod_eq_of_lt (Nat.lt_of_le_of_lt Nat.and_le_left (by omega))]
theorem or_lt {A B : Int} {n : Nat} (a0 : 0 ≤ A) (a1 : A < 2 ^ n) (b0 : 0 ≤ B) (b1 : B < 2 ^ n) : Builtin.bitOr A B % 2 ^ n = Builtin.bitOr A B := by
  obtain ⟨a, rfl⟩ := Int.eq_ofNat_of_zero_le a0
  obtain ⟨b, rfl⟩ := Int.eq_ofNat_of_zero_le b0
  rw [bitOr_nn (Int.natCast_nonneg _) (Int.natCast_nonneg _), castMod]
  rw [pw_cast] at a1 b1
  simp only [Int.toNat_natCast]
  rw [Nat.mod_eq_of_lt (Nat.or_lt_two_pow (by omega) (by omega))]
theorem xor_lt {A B : Int} {n : Nat} (a0 : 0 ≤ A) (a1 : A < 2 ^ n) (b0 : 0 ≤ B) (b1 : B < 2 ^ n) : Builtin.bitXor A B % 2 ^ n = Builtin.bitXor A B := by
  obtain ⟨a, rfl⟩ := Int.eq_ofNat_of_zero_le a0
  obtain ⟨b, rfl⟩ := Int.eq_ofNat_of_zero_le b0
  rw [Bits.bitXor_pp (Int.natCast_nonneg _) (Int.natCast_nonneg _), castMod]
  rw [pw_cast] at a1 b1
  simp only [Int.toNat_natCast]
  rw [Nat.mod_eq_of_lt (Nat.xor_lt_two_pow (by omega) (by omega))]
/-! ### all but the first -/
theorem sIx_one (x : V) (xs : List V) : HT.sIx (x :: xs).length 0 (some 1) = 1 := by
  have e : HT.sIx (x :: xs).length 0 (some 1) = min 1 (x :: xs).length := HT.sIx_nat (x :: xs).length 0 1
  rw [e, List.length_cons]
  omega
theorem cutTail (x : V) (xs : List V) : cutV (x :: xs) (some 1) none = xs := by
  have h2 : HT.sIx (x :: xs).length (x :: xs).length none = (x :: xs).length := HT.sIx_none _ _
  unfold cutV
  rw [sIx_one, h2]
  simp
theorem notWhole (x : V) (xs : List V) : ¬ (HT.sIx (x :: xs).length 0 (some 1) = 0 ∧ HT.sIx (x :: xs).length (x :: xs).length none = (x :: xs).length) := by
  rw [sIx_one]
  exact fun h => absurd h.1 (by decide)
theorem intEq {x y : Int} (h : decide (V.int x = V.int y) = true) : x = y := V.int.inj (of_decide_eq_true h)
theorem intNe {x y : Int} (h : ¬ decide (V.int x = V.int y) = true) : ¬ x = y := fun e => h (decide_eq_true (congrArg V.int e))
/-! ### t + u of two tuples at hand, whatever they hold -/
section
variable {X : Cx}
def rCatZ : R2 := fun x y H Q => ∃ a b xs ys, x = .ref a ∧ y = .ref b ∧ H a = some (.tup xs) ∧ H b = some (.tup ys) ∧ xs.length + ys.length ≤ sizeLine ∧ ∀ p H2, Same H H2 → H2 p = some (.tup (xs ++ ys)) → Q (.ref p) H2
theorem op_catZ : OpR X (binaryOp .Add) rCatZ := by
  intro pins s σ H x y v u Q I rx ry h
  obtain ⟨a, b, xs, ys, rfl, rfl, ha, hb, hz, q⟩ := h
  refine op_catA pins s σ H _ _ v u Q I rx ry ⟨a, b, xs, ys, rfl, rfl, SqT.of ha, SqT.of hb, hz, fun e => ?_, fun _ e => ?_, fun _ _ p hp => ?_⟩
  · subst e
    exact q b H (Same.refl H) hb
  · subst e
    exact q a H (Same.refl H) (by rw [List.append_nil]; exact ha)
  · exact q p _ (same_new hp) upd_same
end
theorem awAppend {α β : Type} {F : α → β → Prop} : ∀ {l k : List α} {l2 k2 : List β}, Paired F l l2 → Paired F k k2 → Paired F (l ++ k) (l2 ++ k2)
  | _, _, _, _, .nil, h => h
  | _, _, _, _, .cons r t, h => .cons r (awAppend t h)
theorem dsOk_append {m t : Int} {ds es : List Deed} (h : DsOk m ds) (k : DsOk t es) (e : t = m + ds.length) : DsOk m (ds ++ es) := by
  constructor
  intro i d hi
  by_cases hl : i < ds.length
  · rw [List.getElem?_append_left hl] at hi
    exact h.each i d hi
  · rw [List.getElem?_append_right (by omega)] at hi
    have := k.each _ d hi
    rw [e] at this
    have e2 : m + (ds.length : Int) + ((i - ds.length : Nat) : Int) = m + i := by omega
    rw [e2] at this
    exact this
/-- all but one stands as it stood -/
def But (f : Addr) (H H2 : Hp) : Prop := ∀ b o, b ≠ f → H b = some o → H2 b = some o
theorem But.trans {f : Addr} {H H1 H2 : Hp} (a : But f H H1) (b : But f H1 H2) : But f H H2 := fun c o n e => b c o n (a c o n e)
theorem But.same {f : Addr} {H H2 : Hp} (s : Same H H2) : But f H H2 := fun b o _ e => s b o e
theorem But.put {f : Addr} {H : Hp} {o : HO} : But f H (upd H f o) := fun b u n e => by
  rw [upd_ne n]
  exact e
theorem But.tups {f : Addr} {H H2 : Hp} {xs : List V} (h : But f H H2) (e : H f = some (.lst xs)) : TupsStay H H2 := fun b ys z => h b _ (ne_of z e (fun q => nomatch q)) z
/-! ### the tape -/
def TP (H : Hp) (a : Addr) : Prop := ∃ x y : Int, H a = some (.lst [.int x, .int y])
theorem TP.same {H H2 : Hp} {a : Addr} (h : TP H a) (s : Same H H2) : TP H2 a := by
  obtain ⟨x, y, e⟩ := h
  exact ⟨x, y, s _ _ e⟩
theorem TP.ne_new {H : Hp} {a p : Addr} (h : TP H a) (e : H p = none) : p ≠ a := by
  obtain ⟨x, y, e1⟩ := h
  exact (ne_of_none e1 e).symm
theorem TP.upd {H : Hp} {a p : Addr} {o : HO} (h : TP H a) (n : p ≠ a) : TP (upd H p o) a := by
  obtain ⟨x, y, e1⟩ := h
  exact ⟨x, y, by rw [upd_ne n.symm]; exact e1⟩
theorem But.tape {a : Addr} {H H2 : Hp} (h : But a H H2) (t : TP H a) : TupsStay H H2 := by
  obtain ⟨x, y, e⟩ := t
  exact h.tups e
theorem But.refl (a : Addr) (H : Hp) : But a H H := fun _ _ _ e => e
theorem atI_in {α : Type} {l : List α} {i : Int} (h0 : 0 ≤ i) (h1 : i < l.length) : ∃ v, atI l i = some v ∧ v ∈ l := by
  obtain ⟨k, rfl⟩ := Int.eq_ofNat_of_zero_le h0
  have hk : k < l.length := by omega
  exact ⟨l[k], atI_nat (List.getElem?_eq_getElem hk), List.getElem_mem hk⟩
/-! ### texts in written tuples -/
theorem inS (x : Str) : ∀ l : List Str, inV (.str x) (l.map V.str) = decide (x ∈ l)
  | [] => rfl
  | y :: l => by
    have ih := inS x l
    show (eqV (.str y) (.str x) || inV (.str x) (l.map V.str)) = _
    rw [ih]
    by_cases h : x = y
    · subst h
      simp [eqV]
    · have h2 : ¬ y = x := fun e => h e.symm
      simp [eqV, h, h2]
def tw12 : List Str := ["add", "sub", "and", "xor", "or", "not", "twice", "neg", "all", "one", "none", "add"]
def twC : List Str := ["add", "sub", "twice", "neg", "one"]
theorem tw_zero : ∀ x ∈ (["all", "one", "none"] : List Str), (x, (0 : Int)) ∈ fwL := by decide +kernel
theorem tw_one : ∀ x ∈ (["not", "twice", "neg"] : List Str), (x, (1 : Int)) ∈ fwL := by decide +kernel
theorem tw_two : ∀ x ∈ tw12, x ∈ (["all", "one", "none"] : List Str) ∨ x ∈ (["not", "twice", "neg"] : List Str) ∨ (x, (2 : Int)) ∈ fwL := by decide +kernel
theorem tw_four : ∀ x ∈ (["and", "or", "xor", "not"] : List Str), x ∈ tw12 := by decide +kernel
theorem mem_strs {v : V} {l : List Str} (h : v ∈ l.map V.str) : ∃ x, x ∈ l ∧ v = .str x := by
  obtain ⟨x, hx, e⟩ := List.mem_map.mp h
  exact ⟨x, hx, e.symm⟩
/-! ### bits and carries of rows -/
def fcD (d : Deed) : Int := if d.1 ∈ (["neg", "one"] : List Str) then 1 else 0
def dbit (x : Str) (a b c : Int) : Int :=
  if x = "none" then 0 else if x = "all" then 1 else if x = "one" then c else if x = "twice" then c else if x = "not" then 1 - a else if x = "neg" then Builtin.bitXor (1 - a) c
  else if x = "and" then Builtin.bitAnd a b else if x = "or" then Builtin.bitOr a b else if x = "xor" then Builtin.bitXor a b else Builtin.bitXor (Builtin.bitXor a b) c
def dcar (x : Str) (a b c : Int) : Int :=
  if x = "neg" then Builtin.bitAnd (1 - a) c else if x = "twice" then a else if x = "add" then (a + b + c) / 2 else if x = "sub" then (1 - a + b + c) / 2 else 0
def dbitAt (d : Deed) (c : Int) (told : List Int) : Int := dbit d.1 (argAt d told 0) (argAt d told 1) c
def dcarAt (d : Deed) (c : Int) (told : List Int) : Int := dcar d.1 (argAt d told 0) (argAt d told 1) c
def bts : List Deed → List Int → List Int → List Int
  | d :: ds, c :: cs, told => bts ds cs (told ++ [dbitAt d c told])
  | _, _, told => told
def nxt (ds : List Deed) (cs told : List Int) : List Int := List.zipWith (fun d c => dcarAt d c told) ds cs
abbrev Bit (x : Int) : Prop := x = 0 ∨ x = 1
theorem bit0 : Bit 0 := .inl rfl
theorem bit1 : Bit 1 := .inr rfl
theorem dbit_bit {x : Str} {a b c : Int} (ha : Bit a) (hb : Bit b) (hc : Bit c) : Bit (dbit x a b c) := by
  have n1 : Bit (1 - a) := by rcases ha with rfl | rfl <;> simp [Bit]
  have hx : ∀ {p q : Int}, Bit p → Bit q → Bit (Builtin.bitXor p q) := fun hp hq => by
    rcases hp with rfl | rfl <;> rcases hq with rfl | rfl <;> decide
  have hand : ∀ {p q : Int}, Bit p → Bit q → Bit (Builtin.bitAnd p q) := fun hp hq => by
    rcases hp with rfl | rfl <;> rcases hq with rfl | rfl <;> decide
  have hor : ∀ {p q : Int}, Bit p → Bit q → Bit (Builtin.bitOr p q) := fun hp hq => by
    rcases hp with rfl | rfl <;> rcases hq with rfl | rfl <;> decide
  unfold dbit
  split; · exact bit0
  split; · exact bit1
  split; · exact hc
  split; · exact hc
  split; · exact n1
  split; · exact hx n1 hc
  split; · exact hand ha hb
  split; · exact hor ha hb
  split; · exact hx ha hb
  exact hx (hx ha hb) hc
theorem dcar_bit {x : Str} {a b c : Int} (ha : Bit a) (hb : Bit b) (hc : Bit c) : Bit (dcar x a b c) := by
  unfold dcar
  split
  · rcases ha with rfl | rfl <;> rcases hc with rfl | rfl <;> decide
  split; · exact ha
  split
  · rcases ha with rfl | rfl <;> rcases hb with rfl | rfl <;> rcases hc with rfl | rfl <;> decide
  split
  · rcases ha with rfl | rfl <;> rcases hb with rfl | rfl <;> rcases hc with rfl | rfl <;> decide
  exact bit0
theorem argAt_bit {told : List Int} (h : ∀ x ∈ told, Bit x) (d : Deed) (j : Nat) : Bit (argAt d told j) := by
  unfold argAt
  rw [List.getD_eq_getElem?_getD]
  cases e : told[(d.2.getD j 0).toNat]? with
  | none => exact bit0
  | some y => exact h y (List.mem_of_getElem? e)
theorem bts_next : ∀ {ds : List Deed} {cs t : List Int} {i : Nat} {d : Deed} {c : Int}, ds[i]? = some d → cs[i]? = some c → bts (ds.take (i + 1)) (cs.take (i + 1)) t = bts (ds.take i) (cs.take i) t ++ [dbitAt d c (bts (ds.take i) (cs.take i) t)]
  | [], _, _, _, _, _, h, _ => by simp at h
  | _ :: _, [], _, _, _, _, _, h => by simp at h
  | e :: ds, g :: cs, t, 0, d, c, h, k => by
    simp only [List.getElem?_cons_zero, Option.some.injEq] at h k
    subst h k
    rfl
  | e :: ds, g :: cs, t, i + 1, d, c, h, k => by
    simp only [List.getElem?_cons_succ] at h k
    exact bts_next (t := t ++ [dbitAt e g t]) h k
theorem bts_len : ∀ {ds : List Deed} {cs t : List Int}, ds.length = cs.length → (bts ds cs t).length = t.length + ds.length
  | [], [], _, _ => rfl
  | [], _ :: _, _, h => by simp at h
  | _ :: _, [], _, h => by simp at h
  | d :: ds, c :: cs, t, h => by
    show (bts ds cs (t ++ [dbitAt d c t])).length = _
    rw [bts_len (by simpa using h), List.length_append, List.length_cons, List.length_cons, List.length_nil]
    omega
theorem bts_bits : ∀ {ds : List Deed} {cs t : List Int}, (∀ x ∈ t, Bit x) → (∀ x ∈ cs, Bit x) → ∀ x ∈ bts ds cs t, Bit x
  | [], cs, t, h, _ => by
    unfold bts
    exact h
  | _ :: _, [], t, h, _ => by
    unfold bts
    exact h
  | d :: ds, c :: cs, t, h, k => by
    refine bts_bits (ds := ds) (cs := cs) (t := t ++ [dbitAt d c t]) (fun x hx => ?_) fun x hx => k x (List.mem_cons_of_mem _ hx)
    rcases List.mem_append.mp hx with hx | hx
    · exact h x hx
    · rw [List.mem_singleton.mp hx]
      exact dbit_bit (argAt_bit h d 0) (argAt_bit h d 1) (k c List.mem_cons_self)
theorem nxt_len {ds : List Deed} {cs t : List Int} (h : ds.length = cs.length) : (nxt ds cs t).length = ds.length := by
  unfold nxt
  rw [List.length_zipWith]
  omega
theorem nxt_bits {ds : List Deed} {cs t : List Int} (h : ∀ x ∈ t, Bit x) (k : ∀ x ∈ cs, Bit x) : ∀ x ∈ nxt ds cs t, Bit x := by
  intro x hx
  unfold nxt at hx
  obtain ⟨i, hi⟩ := List.mem_iff_getElem?.mp hx
  rw [List.getElem?_zipWith] at hi
  cases e1 : ds[i]? with
  | none => rw [e1] at hi; simp at hi
  | some d =>
    cases e2 : cs[i]? with
    | none => rw [e1, e2] at hi; simp at hi
    | some c =>
      rw [e1, e2] at hi
      have := Option.some.inj hi
      rw [← this]
      exact dcar_bit (argAt_bit h d 0) (argAt_bit h d 1) (k c (List.mem_of_getElem? e2))
theorem nxt_next {ds : List Deed} {cs t : List Int} {i : Nat} {d : Deed} {c : Int} (h : ds[i]? = some d) (k : cs[i]? = some c) : (nxt ds cs t).take (i + 1) = (nxt ds cs t).take i ++ [dcarAt d c t] := by
  rw [List.take_add_one]
  unfold nxt
  rw [List.getElem?_zipWith, h, k]
  rfl
section
variable {K : PySem.W.Frag} {a b : Addr} {xs ys : List V}
theorem walk_zipT (hn : xs.length = ys.length) : Walk (RZ.ItzT K a b) xs.length (fun H => SqT K H a xs ∧ SqT K H b ys) (YPair (fun i => xs[i]?) (fun i => ys[i]?)) where
  goes := fun i H hi q => ⟨xs, ys, xs[i], ys[i]'(by omega), q.1, q.2, List.getElem?_eq_getElem hi, List.getElem?_eq_getElem (by omega)⟩
  stops := fun H q => ⟨xs, ys, q.1, q.2, .inl (Nat.le_refl _)⟩
  yields := fun i H v H2 hi q y => by
    obtain ⟨T, x, z, h1, h2, h3, h4, h5⟩ := y
    exact ⟨T, x, z, h1, h2, h3, h4 xs q.1, h5 ys q.2⟩
end
/-! ### own exceptions as values -/
section
variable {X : Cx} {K : PySem.W.Frag}
theorem kit_ref {D C : Addr} {b : Bool} (h1 : PySem.W.isClsIn K C = true) (h2 : PySem.W.typeIn K (.ref C) = some (.type "type")) (h3 : PySem.W.subIn K (.ref D) (.ref C) = some b) (h4 : PySem.W.subIn K (.ref C) (.ref C) = some true) : PySem.W.kitOne K (.ref D) (.ref C) = some b := by
  unfold PySem.W.kitOne
  by_cases e : D = C
  · subst e
    rw [h3] at h4
    rw [if_pos (by simp), h4]
  · rw [if_neg (by simpa using e)]
    have e1 : ((PySem.W.clsIn K C).isSome && PySem.W.typeIn K (.ref C) == some (.type "type")) = true := by
      have h1' : (PySem.W.clsIn K C).isSome = true := h1
      rw [h1', h2]
      rfl
    show (if ((PySem.W.clsIn K C).isSome && PySem.W.typeIn K (.ref C) == some (.type "type")) = true then PySem.W.subIn K (.ref D) (.ref C) else none) = some b
    rw [if_pos e1]
    exact h3
theorem kit_ve {D : Addr} {b : Bool} (h : PySem.W.subIn K (.ref D) (.type "ValueError") = some b) : PySem.W.kitOne K (.ref D) (.type "ValueError") = some b := by
  have e1 : PySem.W.kitMeta "ValueError" = true := by decide +kernel
  show (if PySem.W.kitMeta "ValueError" = true then PySem.W.subIn K (.ref D) (.type "ValueError") else none) = some b
  rw [if_pos e1]
  exact h
def rIsX (K : PySem.W.Frag) : List V → Hp → VK → Prop := fun xs H Q => ∃ (a D : Addr) (c : V) (cv : Value) (b : Bool), xs = [.ref a, c] ∧ H a = some (ExO (.ref D) a) ∧ ExcC K D ∧ ClsV c cv ∧ PySem.W.kitOne K (.ref D) cv = some b ∧ Q (.bl b) H
theorem call_isX : CallR X (.builtin "isinstance") (rIsX X.K) := by
  intro pins s σ H xs us Q I r h
  obtain ⟨a, D, c, cv, b, rfl, ha, hD, hc, hk, q⟩ := h
  match us, r with
  | [u1, u2], .cons r1 (.cons r2 .nil) =>
    obtain rfl : u1 = Value.ref a := r1
    obtain rfl := ClsV.eq hc r2
    obtain ⟨⟨oe, vs, hget, ⟨z1, z2⟩, hv, _⟩, _, _⟩ := I.hok a _ ha
    have J : PySem.W.InstAt s.heap a oe D none := by
      obtain ⟨oc, od, oda, osl⟩ := oe
      dsimp only at z1 z2 hv
      subst z1 z2 hv
      exact ⟨hget, rfl, rfl, trivial⟩
    exact PySem.W.kia_one (PySem.W.handS_kitx_exc hD.hg hD.hk hD.hs hD.hd hD.ha hD.hn hD.ht hD.hm) I.kIn J hk (fun z => nomatch z) fun tk => ⟨.bl b, H, I.kept (t' := tk) fun _ _ z => z, rfl, q⟩
end
theorem dp_bls {K : PySem.W.Frag} {H : Hp} : ∀ cs : List Bool, DpAll K H (cs.map V.bl) (cs.map PyData.bool)
  | [] => .nil
  | c :: cs => .cons (.bl c) (dp_bls cs)
theorem lay_bls : ∀ cs : List Bool, PyData.canLayAll0 (cs.map PyData.bool) = true ∧ PyData.depthAll (cs.map PyData.bool) = 0
  | [] => ⟨by simp only [List.map_nil, PyData.canLayAll0], by simp only [List.map_nil, PyData.depthAll]⟩
  | c :: cs => by
    obtain ⟨h1, h2⟩ := lay_bls cs
    exact ⟨by simp only [List.map_cons, PyData.canLayAll0, PyData.canLay0, h1, Bool.and_self], by simp only [List.map_cons, PyData.depthAll, PyData.depth, h2, Nat.max_self]⟩
theorem shaped_bls (cs : List Bool) : SeqAt.shaped (.list (cs.map PyData.bool)) = true := by
  obtain ⟨h1, h2⟩ := lay_bls cs
  simp only [SeqAt.shaped, PyData.canLay0, PyData.depth, h1, h2, Bool.true_and]
  decide
theorem eqv_bls (l : List Bool) : PyData.eqv (.list (l.map PyData.bool)) (.list (l.map PyData.bool)) = true := SeqAt.eqv_refl _ (SeqAt.canLay_of_shaped (shaped_bls l))
/-- a test that is never asked -/
def tNevT : TT := fun _ _ _ => False
theorem pt_never {X : Cx} {e : Expr} : PT X e tNevT := ⟨fun _ _ _ _ _ _ h => h.elim⟩
end AW
namespace KK
open PySem PySem.Spec PyProof.Rows L2 AW
def topS (i : Nat) : Stmt := PySem.Challenge.pw_anywide_k10_carries_step_by_step.main.body.getD i (.Pass ⟨0, 0, 0, 0⟩)
abbrev s_first_carry : Stmt := topS 1
abbrev N_first_carry : List Str := ["row", "deed"]
theorem sc_first_carry : FnScope N_first_carry ["row"] (defScope s_first_carry) := ⟨rfl, rfl, rfl, by decide +kernel, rfl, by decide +kernel, by decide +kernel⟩
abbrev s_deed_bit : Stmt := topS 2
abbrev N_deed_bit : List Str := ["deed", "held", "told", "word", "first", "second"]
theorem sc_deed_bit : FnScope N_deed_bit ["deed", "held", "told"] (defScope s_deed_bit) := ⟨rfl, rfl, rfl, by decide +kernel, rfl, by decide +kernel, by decide +kernel⟩
abbrev s_bits_of : Stmt := topS 3
abbrev N_bits_of : List Str := ["row", "carry", "bits", "told", "deed", "held"]
theorem sc_bits_of : FnScope N_bits_of ["row", "carry", "bits"] (defScope s_bits_of) := ⟨rfl, rfl, rfl, by decide +kernel, rfl, by decide +kernel, by decide +kernel⟩
abbrev s_two_or_more : Stmt := topS 4
abbrev N_two_or_more : List Str := ["one", "other", "third"]
theorem sc_two_or_more : FnScope N_two_or_more ["one", "other", "third"] (defScope s_two_or_more) := ⟨rfl, rfl, rfl, by decide +kernel, rfl, by decide +kernel, by decide +kernel⟩
abbrev s_deed_carry : Stmt := topS 5
abbrev N_deed_carry : List Str := ["deed", "held", "told", "word"]
theorem sc_deed_carry : FnScope N_deed_carry ["deed", "held", "told"] (defScope s_deed_carry) := ⟨rfl, rfl, rfl, by decide +kernel, rfl, by decide +kernel, by decide +kernel⟩
abbrev s_carry_behind : Stmt := topS 6
abbrev N_carry_behind : List Str := ["row", "carry", "told", "deed", "held"]
theorem sc_carry_behind : FnScope N_carry_behind ["row", "carry", "told"] (defScope s_carry_behind) := ⟨rfl, rfl, rfl, by decide +kernel, rfl, by decide +kernel, by decide +kernel⟩
abbrev s_next_carry : Stmt := topS 7
abbrev N_next_carry : List Str := ["row", "carry", "bits"]
theorem sc_next_carry : FnScope N_next_carry ["row", "carry", "bits"] (defScope s_next_carry) := ⟨rfl, rfl, rfl, by decide +kernel, rfl, by decide +kernel, by decide +kernel⟩
abbrev s_law_tape : Stmt := topS 9
abbrev N_law_tape : List Str := ["script", "start", "cell"]
theorem sc_law_tape : FnScope N_law_tape ["script", "start"] (defScope s_law_tape) := ⟨rfl, rfl, rfl, by decide +kernel, rfl, by decide +kernel, by decide +kernel⟩
abbrev s_law_digit : Stmt := topS 10
abbrev N_law_digit : List Str := ["tape", "many", "found", "more"]
theorem sc_law_digit : FnScope N_law_digit ["tape", "many"] (defScope s_law_digit) := ⟨rfl, rfl, rfl, by decide +kernel, rfl, by decide +kernel, by decide +kernel⟩
abbrev s_law_deed : Stmt := topS 11
abbrev N_law_deed : List Str := ["tape", "ahead", "left", "some", "word", "numbers"]
theorem sc_law_deed : FnScope N_law_deed ["tape", "ahead", "left"] (defScope s_law_deed) := ⟨rfl, rfl, rfl, by decide +kernel, rfl, by decide +kernel, by decide +kernel⟩
abbrev s_law_carrying : Stmt := topS 12
abbrev N_law_carrying : List Str := ["deeds", "deed"]
theorem sc_law_carrying : FnScope N_law_carrying ["deeds"] (defScope s_law_carrying) := ⟨rfl, rfl, rfl, by decide +kernel, rfl, by decide +kernel, by decide +kernel⟩
abbrev s_law_row : Stmt := topS 13
abbrev N_law_row : List Str := ["tape", "many", "most", "left", "deeds", "k", "out"]
theorem sc_law_row : FnScope N_law_row ["tape", "many", "most", "left"] (defScope s_law_row) := ⟨rfl, rfl, rfl, by decide +kernel, rfl, by decide +kernel, by decide +kernel⟩
abbrev s_law_bit : Stmt := topS 14
abbrev N_law_bit : List Str := ["deed", "carry", "bits", "word", "one", "other"]
theorem sc_law_bit : FnScope N_law_bit ["deed", "carry", "bits"] (defScope s_law_bit) := ⟨rfl, rfl, rfl, by decide +kernel, rfl, by decide +kernel, by decide +kernel⟩
abbrev s_law_carry : Stmt := topS 15
abbrev N_law_carry : List Str := ["deed", "carry", "bits", "word"]
theorem sc_law_carry : FnScope N_law_carry ["deed", "carry", "bits"] (defScope s_law_carry) := ⟨rfl, rfl, rfl, by decide +kernel, rfl, by decide +kernel, by decide +kernel⟩
abbrev s_law_step : Stmt := topS 16
abbrev N_law_step : List Str := ["row", "carry", "bits", "told", "deed", "one"]
theorem sc_law_step : FnScope N_law_step ["row", "carry", "bits"] (defScope s_law_step) := ⟨rfl, rfl, rfl, by decide +kernel, rfl, by decide +kernel, by decide +kernel⟩
abbrev s_law_first : Stmt := topS 17
abbrev N_law_first : List Str := ["row", "deed"]
theorem sc_law_first : FnScope N_law_first ["row"] (defScope s_law_first) := ⟨rfl, rfl, rfl, by decide +kernel, rfl, by decide +kernel, by decide +kernel⟩
abbrev s_law_bits : Stmt := topS 18
abbrev N_law_bits : List Str := ["many", "found", "k", "some"]
theorem sc_law_bits : FnScope N_law_bits ["many"] (defScope s_law_bits) := ⟨rfl, rfl, rfl, by decide +kernel, rfl, by decide +kernel, by decide +kernel⟩
abbrev s_law : Stmt := topS 19
abbrev N_law : List Str := ["script", "start", "tape", "many", "row", "kept", "carry", "turn", "bits", "due", "later", "deed"]
theorem sc_law : FnScope N_law ["script"] (defScope s_law) := ⟨rfl, rfl, rfl, by decide +kernel, rfl, by decide +kernel, by decide +kernel⟩
section
variable {P : Program} {w : World} {K : PySem.W.Frag} {mg : Str → Option Value} {base : Heap}
/-! ### tape, digit -/
def spTape (K : PySem.W.Frag) : Sp := fun vs H Q _ => ∃ (S : Addr) (ns : List Int) (st : Int), vs = [.ref S, .int st] ∧ SqL K H S (ns.map V.int) ∧ 0 ≤ st ∧ st ≤ 1000 ∧ ∀ H' p, Same H H' → H p = none → TP H' p → Q (.ref p) H'
theorem ok_tape {f : Addr} {fd : FuncData} {k : Nat} (F : Fun K "_law_tape" "_law_tape" s_law_tape f fd) (ma : mg "abs" = none) (mn : mg "len" = none) : FnOk P w K mg base CX0 (k + 1) f fd ["script", "start"] (spTape K) := by
  refine F.ok sc_law_tape (fun vs H Q E h => ?_) (fun cdv A outer s H vs Q E hr h => ?_)
  · obtain ⟨S, ns, st, rfl, _⟩ := h
    rfl
  · obtain ⟨S, ns, st, rfl, hS, h0, h1, q⟩ := h
    refine ⟨_, pss_cons (ps_set (i := 2) sc_law_tape.nd rfl (.inl rfl) pe_int)
      (pss_mid (ps_if (pt_cmpR op_lt (pv 1) (pe_callB call_len_seq (by rfl) mn PySem.boot_len (pa_cons (pv 0) pa_nil)) (nomark _))
        (pss_one (ps_set (i := 2) sc_law_tape.nd rfl (.inl rfl) (pe_callB call_abs (by rfl) ma (by decide +kernel) (pa_cons (pe_ix ix_list (pv 0) (pv 1) (fun _ _ => rfl)) pa_nil))))
        (pss_one (ps_if (pt_cmpR op_gt (pe_callB call_len_seq (by rfl) mn PySem.boot_len (pa_cons (pv 0) pa_nil)) pe_int (nomark _))
          (pss_one (ps_set (i := 2) sc_law_tape.nd rfl (.inl rfl) (pe_op op_add (pe_op op_mod (pe_callB call_abs (by rfl) ma (by decide +kernel) (pa_cons (pe_ix ix_list (pv 0) (pe_op op_mod (pv 1) (pe_callB call_len_seq (by rfl) mn PySem.boot_len (pa_cons (pv 0) pa_nil))) (fun _ _ => rfl)) pa_nil)) (pe_op op_pow pe_int pe_int)) (pe_op op_mul (pv 1) pe_int)))) pss_nil)))
      (pss_one (ps_ret (pe_lst (pa_cons (pv 2) (pa_cons (pe_op op_add (pe_op op_mod (pe_op op_add (pe_op op_mul (pv 1) pe_int) (pv 2)) pe_int) pe_int) pa_nil)))))), ?_⟩
    refine ⟨fun σ2 H2 => ∃ c : Int, σ2 = [some (.ref S), some (.int st), some (.int c)] ∧ H2 = H, ?_, ?_⟩
    · refine ⟨.int st, rfl, .ref S, rfl, S, _, rfl, .inl hS, st, _, rfl, rfl, _, rfl, ite2 (fun e => ?_) (fun e => ?_)⟩
      · have hl := of_decide_eq_true e
        rw [List.length_map] at hl
        refine ⟨.ref S, rfl, .int st, rfl, S, _, st, _, rfl, rfl, hS, atI_ints h0 hl, _, rfl, ?_⟩
        exact ⟨_, rfl, rfl⟩
      · refine ⟨.ref S, rfl, S, _, rfl, .inl hS, _, 0, rfl, rfl, _, rfl, ite2 (fun e2 => ?_) (fun e2 => ?_)⟩
        · have hpos := of_decide_eq_true e2
          have hp2 : (0 : Int) < ns.length := by
            rw [List.length_map] at hpos
            exact hpos
          refine ⟨.ref S, rfl, .int st, rfl, .ref S, rfl, S, _, rfl, .inl hS, st, _, rfl, rfl, hpos, S, _, _, _, rfl, rfl, hS, atI_ints (Int.emod_nonneg _ (by omega)) (by rw [List.length_map]; exact Int.emod_lt_of_pos _ hp2), _, rfl, ?_⟩
          refine ⟨10, 9, rfl, rfl, ⟨by decide, by decide, by decide⟩, _, _, rfl, rfl, (by show (0 : Int) < 10 ^ 9; decide), .int st, rfl, st, 1000003, rfl, rfl, .inr ⟨by decide, by decide⟩, _, _, rfl, rfl, _, rfl, rfl⟩
        · exact ⟨_, rfl, rfl⟩
    · rintro σ2 H2 ⟨c, rfl, rfl⟩
      refine ⟨.int c, rfl, .int st, rfl, st, 7919, rfl, rfl, .inr ⟨by decide, by decide⟩, .int c, rfl, _, c, rfl, rfl, _, 998244353, rfl, rfl, (by show (0 : Int) < 998244353; decide), _, 1, rfl, rfl, by show 2 ≤ sizeLine; decide, fun p hp => ?_⟩
      exact q _ p (same_new hp) hp ⟨_, _, upd_same⟩
def spDigit : Sp := fun vs H Q _ => ∃ (a : Addr) (m : Int), vs = [.ref a, .int m] ∧ 0 < m ∧ m ≤ 2 ^ 80 ∧ TP H a ∧ ∀ H' z, 0 ≤ z → z < m → TP H' a → But a H H' → Q (.int z) H'
theorem ok_digit {f : Addr} {fd : FuncData} {k : Nat} (F : Fun K "_law_digit" "_law_digit" s_law_digit f fd) : FnOk P w K mg base CX0 (k + 1) f fd ["tape", "many"] spDigit := by
  refine F.ok sc_law_digit (fun vs H Q E h => ?_) (fun cdv A outer s H vs Q E hr h => ?_)
  · obtain ⟨a, m, rfl, _⟩ := h
    rfl
  · obtain ⟨a, m, rfl, hm, hm2, ⟨x, y, ea⟩, q⟩ := h
    refine ⟨_, pss_cons (ps_if (pt_cmpR op_gt (pe_ix ix_list (pv 0) pe_int (fun _ _ => rfl)) pe_int (nomark _))
        (pss_cons (ps_set (i := 2) sc_law_digit.nd rfl (.inl rfl) (pe_op op_mod (pe_ix ix_list (pv 0) pe_int (fun _ _ => rfl)) (pv 1)))
        (pss_cons (ps_asg (pe_op op_fdivW (pe_ix ix_list (pv 0) pe_int (fun _ _ => rfl)) (pv 1)) (pg_sub (pv 0) pe_int set_list))
        (pss_one (ps_ret (pv 2))))) pss_nil)
      (pss_cons (ps_asg (pe_op op_mod (pe_op op_add (pe_op op_mul (pe_ix ix_list (pv 0) pe_int (fun _ _ => rfl)) pe_int) pe_int) pe_int) (pg_sub (pv 0) pe_int set_list))
      (pss_cons (ps_set (i := 3) sc_law_digit.nd rfl (.inl rfl) (pe_op op_mod (pe_op op_mul (pe_ix ix_list (pv 0) pe_int (fun _ _ => rfl)) pe_int) pe_int))
      (pss_one (ps_ret (pe_op op_mod (pe_op op_add (pe_op op_mul (pe_op op_mod (pe_op op_mul (pe_ix ix_list (pv 0) pe_int (fun _ _ => rfl)) (pe_ix ix_list (pv 0) pe_int (fun _ _ => rfl))) pe_int) pe_int) (pv 3)) (pv 1)))))), ?_⟩
    have lA : SqL K H a [.int x, .int y] := .inl (.inl ea)
    have put : ∀ o, But a H (upd H a o) := fun o => But.put
    refine ⟨.ref a, rfl, a, _, 0, .int x, rfl, rfl, lA, rfl, x, 0, rfl, rfl, _, rfl, ite2 (fun e => ?_) (fun e => ?_)⟩
    · refine ⟨.ref a, rfl, a, _, 0, .int x, rfl, rfl, lA, rfl, .int m, rfl, x, m, rfl, rfl, hm, ?_⟩
      refine ⟨.ref a, rfl, a, _, 0, .int x, rfl, rfl, lA, rfl, .int m, rfl, x, m, rfl, rfl, wide_div (b := 81) hm (by omega) (by decide) (by decide), ?_⟩
      refine ⟨.ref a, rfl, a, _, 0, 0, rfl, rfl, ea, rfl, .int (x % m), rfl, ?_⟩
      exact q _ _ (Int.emod_nonneg _ (by omega)) (Int.emod_lt_of_pos _ hm) ⟨x / m, y, upd_same⟩ (put _)
    · refine ⟨.ref a, rfl, a, _, 1, .int y, rfl, rfl, lA, rfl, y, 48271, rfl, rfl, .inr ⟨by decide, by decide⟩, _, 11, rfl, rfl, _, 2147483647, rfl, rfl, (by show (0 : Int) < 2147483647; decide), ?_⟩
      have l0 := Int.emod_nonneg (y * 48271 + 11) (show (2147483647 : Int) ≠ 0 by decide)
      have l1 := Int.emod_lt_of_pos (y * 48271 + 11) (show (0 : Int) < 2147483647 by decide)
      obtain ⟨z, hz⟩ : ∃ z : Int, (y * 48271 + 11) % 2147483647 = z := ⟨_, rfl⟩
      rw [hz] at l0 l1
      refine ⟨.ref a, rfl, a, _, 1, 1, rfl, rfl, ea, rfl, ?_⟩
      refine ⟨.ref a, rfl, a, _, 1, .int z, rfl, rfl, .inl (.inl upd_same), (by rw [← hz]; rfl), z, 40692, rfl, rfl, .inr ⟨by decide, by decide⟩, _, 2147483399, rfl, rfl, (by show (0 : Int) < 2147483399; decide), ?_⟩
      refine ⟨.ref a, rfl, a, _, 1, .int z, rfl, rfl, .inl (.inl upd_same), (by rw [← hz]; rfl), .ref a, rfl, a, _, 1, .int z, rfl, rfl, .inl (.inl upd_same), (by rw [← hz]; rfl), z, z, rfl, rfl, .inr ⟨by omega, by omega⟩, _, 2147483629, rfl, rfl, (by show (0 : Int) < 2147483629; decide), _, 2147483399, rfl, rfl, .inr ⟨by decide, by decide⟩, _, rfl, _, _, rfl, rfl, .int m, rfl, _, m, rfl, rfl, hm, ?_⟩
      exact q _ _ (Int.emod_nonneg _ (by omega)) (Int.emod_lt_of_pos _ hm) ⟨x, z, by rw [← hz]; exact upd_same⟩ (put _)
/-! ### a deed off the tape -/
def spTd : Sp := fun vs H Q _ => ∃ (a : Addr) (m lf : Int), vs = [.ref a, .int m, .int lf] ∧ 0 < m ∧ m ≤ 100 ∧ TP H a ∧ ∀ H' r d, DeedOk m d → H' r = some (.tup (dV d)) → TP H' a → But a H H' → Q (.ref r) H'
theorem ok_td {f fD : Addr} {fd fdD : FuncData} {k : Nat} (F : Fun K "_law_deed" "_law_deed" s_law_deed f fd) (GD : FnOk P w K mg base CX0 (k + 1) fD fdD ["tape", "many"] spDigit) (kD : PySem.W.keepIn K (.ref fD) = true) (bD : Binds K fdD ["tape", "many"] []) (gD : mg "_law_digit" = some (.ref fD)) :
    FnOk P w K mg base CX0 (k + 2) f fd ["tape", "ahead", "left"] spTd := by
  refine F.ok sc_law_deed (fun vs H Q E h => ?_) (fun cdv A outer s H vs Q E hr h => ?_)
  · obtain ⟨a, m, lf, rfl, _⟩ := h
    rfl
  · obtain ⟨a, m, lf, rfl, hm, hm2, ht, q⟩ := h
    refine ⟨_, pss_cons (ps_set (i := 3) sc_law_deed.nd rfl (.inl rfl) (pe_lst (pa_cons pe_str (pa_cons pe_str (pa_cons pe_str (pa_cons pe_str (pa_cons pe_str (pa_cons pe_str (pa_cons pe_str (pa_cons pe_str (pa_cons pe_str (pa_cons pe_str (pa_cons pe_str (pa_cons pe_str pa_nil))))))))))))))
      (pss_cons (ps_set (i := 4) sc_law_deed.nd rfl (.inl rfl) (pe_ix ix_list (pv 3) (pe_call GD hr (by rfl) gD kD bD .nil pass0 (pa_cons (pv 0) (pa_cons pe_int pa_nil))) (fun _ _ => rfl)))
      (pss_mid (ps_if (PW.pt (pw_and (pt_cmpR op_eq (pv 2) pe_int (nomark _)) (pw_and1 (pt_cmpR op_in_seq (pv 4) (pe_tup (pa_cons pe_str (pa_cons pe_str (pa_cons pe_str (pa_cons pe_str (pa_cons pe_str pa_nil)))))) (by rfl)))))
        (pss_one (ps_set (i := 4) sc_law_deed.nd rfl (.inl rfl) (pe_ix ix_list (pe_lst (pa_cons pe_str (pa_cons pe_str (pa_cons pe_str (pa_cons pe_str pa_nil))))) (pe_call GD hr (by rfl) gD kD bD .nil pass0 (pa_cons (pv 0) (pa_cons pe_int pa_nil))) (fun _ _ => rfl)))) pss_nil)
      (pss_cons (ps_set (i := 5) sc_law_deed.nd rfl (.inl rfl) (pe_lst (pa_cons (pe_call GD hr (by rfl) gD kD bD .nil pass0 (pa_cons (pv 0) (pa_cons (pv 1) pa_nil))) (pa_cons (pe_call GD hr (by rfl) gD kD bD .nil pass0 (pa_cons (pv 0) (pa_cons (pv 1) pa_nil))) pa_nil))))
      (pss_mid (ps_if (pt_cmpR op_eq (pe_call GD hr (by rfl) gD kD bD .nil pass0 (pa_cons (pv 0) (pa_cons pe_int pa_nil))) pe_int (nomark _)) (pss_one (ps_asg (pe_op op_sub (pv 1) pe_int) (pg_sub (pv 5) (pe_call GD hr (by rfl) gD kD bD .nil pass0 (pa_cons (pv 0) (pa_cons pe_int pa_nil))) set_list))) pss_nil)
      (pss_cons (ps_if (pt_cmpR op_in_seq (pv 4) (pe_tup (pa_cons pe_str (pa_cons pe_str (pa_cons pe_str pa_nil)))) (by rfl)) (pss_one (ps_ret (pe_tup (pa_cons (pv 4) pa_nil)))) pss_nil)
      (pss_cons (ps_if (pt_cmpR op_in_seq (pv 4) (pe_tup (pa_cons pe_str (pa_cons pe_str (pa_cons pe_str pa_nil)))) (by rfl)) (pss_one (ps_ret (pe_tup (pa_cons (pv 4) (pa_cons (pe_ix ix_list (pv 5) pe_int (fun _ _ => rfl)) pa_nil))))) pss_nil)
      (pss_one (ps_ret (pe_tup (pa_cons (pv 4) (pa_cons (pe_ix ix_list (pv 5) pe_int (fun _ _ => rfl)) (pa_cons (pe_ix ix_list (pv 5) pe_int (fun _ _ => rfl)) pa_nil)))))))))))), ?_⟩
    refine ⟨by show 12 ≤ sizeLine; decide, fun S hS => ?_⟩
    have nS := ht.ne_new hS
    refine ⟨.ref S, rfl, .ref a, rfl, a, 12, rfl, by decide, by decide, ht.upd nS, fun H1 z z0 z1 t1 b1 => ?_⟩
    have eS1 : H1 S = some (.lst (tw12.map V.str)) := b1 _ _ nS upd_same
    obtain ⟨v, hv, hvm⟩ := atI_in (l := tw12.map V.str) z0 (by show z < 12; exact z1)
    obtain ⟨x, hx, rfl⟩ := mem_strs hvm
    have kp1 : But a H H1 := (But.same (same_new hS)).trans b1
    refine ⟨S, _, z, .str x, rfl, rfl, .inl (.inl eS1), hv, ?_⟩
    refine ⟨fun σ2 H2 => ∃ x, σ2 = [some (.ref a), some (.int m), some (.int lf), some (.ref S), some (.str x), none] ∧ x ∈ tw12 ∧ TP H2 a ∧ But a H H2, ?_, ?_⟩
    · refine ⟨.int lf, rfl, rfl, _, rfl, ite2 (fun e => ?_) (fun e => ?_)⟩
      · refine ⟨.str x, rfl, by show 5 ≤ sizeLine; decide, fun T hT => ?_⟩
        have nT := t1.ne_new hT
        refine ⟨T, _, rfl, .inr (SqT.of upd_same), rfl, rfl, _, rfl, ite2 (fun e2 => ?_) (fun e2 => ?_)⟩
        · refine ⟨by show 4 ≤ sizeLine; decide, fun M hM => ?_⟩
          have t2 := t1.upd (o := .tup (twC.map V.str)) nT
          have nM := t2.ne_new hM
          refine ⟨.ref a, rfl, a, 4, rfl, by decide, by decide, t2.upd nM, fun H3 y y0 y1 t3 b3 => ?_⟩
          obtain ⟨v2, hv2, hvm2⟩ := atI_in (l := (["and", "or", "xor", "not"] : List Str).map V.str) y0 (by show y < 4; exact y1)
          obtain ⟨x2, hx2, rfl⟩ := mem_strs hvm2
          refine ⟨M, _, y, .str x2, rfl, rfl, .inl (.inl (b3 _ _ nM upd_same)), hv2, x2, rfl, tw_four x2 hx2, t3, ?_⟩
          exact ((kp1.trans (But.same (same_new hT))).trans (But.same (same_new hM))).trans b3
        · exact ⟨x, rfl, hx, t1.upd nT, kp1.trans (But.same (same_new hT))⟩
      · exact ⟨x, rfl, hx, t1, kp1⟩
    · rintro σ2 H2 ⟨x, rfl, hx, t2, b2⟩
      refine ⟨.ref a, rfl, .int m, rfl, a, m, rfl, hm, by omega, t2, fun H3 i i0 i1 t3 b3 => ?_⟩
      refine ⟨.ref a, rfl, .int m, rfl, a, m, rfl, hm, by omega, t3, fun H4 j j0 j1 t4 b4 => ?_⟩
      refine ⟨by show 2 ≤ sizeLine; decide, fun M hM => ?_⟩
      have nM := t4.ne_new hM
      have bH : But a H H4 := (b2.trans b3).trans b4
      refine ⟨fun σ5 H5 => ∃ i j : Int, σ5 = [some (.ref a), some (.int m), some (.int lf), some (.ref S), some (.str x), some (.ref M)] ∧ 0 ≤ i ∧ i < m ∧ 0 ≤ j ∧ j < m ∧ H5 M = some (.lst [.int i, .int j]) ∧ TP H5 a ∧ But a H H5, ?_, ?_⟩
      · have bM : But a H (upd H4 M (.lst [.int i, .int j])) := bH.trans (But.same (same_new hM))
        refine ⟨.ref a, rfl, a, 3, rfl, by decide, by decide, t4.upd nM, fun H5 y y0 y1 t5 b5 => ?_⟩
        have eM5 := b5 _ _ nM upd_same
        refine ⟨rfl, _, rfl, ite2 (fun e => ?_) (fun e => ?_)⟩
        · refine ⟨.int m, rfl, m, 1, rfl, rfl, .ref M, rfl, .ref a, rfl, a, 2, rfl, by decide, by decide, t5, fun H6 u u0 u1 t6 b6 => ?_⟩
          have eM6 := b6 _ _ nM eM5
          have old : ∀ o, But a H (upd H6 M o) := fun o b v nb e => by
            have e1 := bH b v nb e
            rw [upd_ne (ne_of_none e1 hM)]
            exact b6 b v nb (b5 b v nb (by rw [upd_ne (ne_of_none e1 hM)]; exact e1))
          have hu : u = 0 ∨ u = 1 := by omega
          rcases hu with rfl | rfl
          · exact ⟨M, _, 0, 0, rfl, rfl, eM6, rfl, m - 1, j, rfl, by omega, by omega, j0, j1, upd_same, t6.upd nM, old _⟩
          · exact ⟨M, _, 1, 1, rfl, rfl, eM6, rfl, i, m - 1, rfl, i0, i1, by omega, by omega, upd_same, t6.upd nM, old _⟩
        · exact ⟨i, j, rfl, i0, i1, j0, j1, eM5, t5, bM.trans b5⟩
      · rintro σ5 H5 ⟨i, j, rfl, i0, i1, j0, j1, eM, t5, b5⟩
        refine ⟨.str x, rfl, by show 3 ≤ sizeLine; decide, fun T hT => ?_⟩
        have nT := t5.ne_new hT
        have sT := same_new (o := .tup [.str "all", .str "one", .str "none"]) hT
        refine ⟨T, _, rfl, .inr (SqT.of upd_same), rfl, rfl, _, rfl, ite2 (fun e => ?_) (fun e => ?_)⟩
        · have hx0 : x ∈ (["all", "one", "none"] : List Str) := of_decide_eq_true ((inS x ["all", "one", "none"]).symm.trans e)
          refine ⟨.str x, rfl, by show 1 ≤ sizeLine; decide, fun r hr => ?_⟩
          have nr := (t5.upd nT).ne_new hr
          exact q _ r (x, []) ⟨tw_zero x hx0, (fun _ z => nomatch z)⟩ upd_same ((t5.upd nT).upd nr) ((b5.trans (But.same sT)).trans (But.same (same_new hr)))
        · have hx0 : ¬ x ∈ (["all", "one", "none"] : List Str) := fun z => e ((inS x ["all", "one", "none"]).trans (decide_eq_true z))
          refine ⟨.str x, rfl, by show 3 ≤ sizeLine; decide, fun U hU => ?_⟩
          have nU := (t5.upd nT).ne_new hU
          have sU := same_new (o := .tup [.str "not", .str "twice", .str "neg"]) hU
          have t6 := (t5.upd (o := .tup [.str "all", .str "one", .str "none"]) nT).upd (o := .tup [.str "not", .str "twice", .str "neg"]) nU
          have eM6 := sU _ _ (sT _ _ eM)
          refine ⟨U, _, rfl, .inr (SqT.of upd_same), rfl, rfl, _, rfl, ite2 (fun e2 => ?_) (fun e2 => ?_)⟩
          · have hx1 : x ∈ (["not", "twice", "neg"] : List Str) := of_decide_eq_true ((inS x ["not", "twice", "neg"]).symm.trans e2)
            refine ⟨.str x, rfl, .ref M, rfl, M, _, 0, .int i, rfl, rfl, .inl (.inl eM6), rfl, by show 2 ≤ sizeLine; decide, fun r hr => ?_⟩
            have nr := t6.ne_new hr
            refine q _ r (x, [i]) ⟨tw_one x hx1, fun z hz => ?_⟩ upd_same (t6.upd nr) (((b5.trans (But.same sT)).trans (But.same sU)).trans (But.same (same_new hr)))
            rw [List.mem_singleton.mp hz]
            exact ⟨i0, i1⟩
          · have hx1 : ¬ x ∈ (["not", "twice", "neg"] : List Str) := fun z => e2 ((inS x ["not", "twice", "neg"]).trans (decide_eq_true z))
            have hx2 : (x, (2 : Int)) ∈ fwL := ((tw_two x hx).resolve_left hx0).resolve_left hx1
            refine ⟨.str x, rfl, .ref M, rfl, M, _, 0, .int i, rfl, rfl, .inl (.inl eM6), rfl, .ref M, rfl, M, _, 1, .int j, rfl, rfl, .inl (.inl eM6), rfl, by show 3 ≤ sizeLine; decide, fun r hr => ?_⟩
            have nr := t6.ne_new hr
            refine q _ r (x, [i, j]) ⟨hx2, fun z hz => ?_⟩ upd_same (t6.upd nr) (((b5.trans (But.same sT)).trans (But.same sU)).trans (But.same (same_new hr)))
            simp only [List.mem_cons, List.not_mem_nil, or_false] at hz
            rcases hz with rfl | rfl
            · exact ⟨i0, i1⟩
            · exact ⟨j0, j1⟩
/-! ### how many carry -/
def spCr (K : PySem.W.Frag) : Sp := fun vs H Q _ => ∃ (L : Addr) (rs : List Addr) (ds : List Deed), vs = [.ref L] ∧ SqL K H L (rs.map V.ref) ∧ DsAt H rs ds ∧ ds.length ≤ 100 ∧ ∀ H' (n : Int), Same H H' → Q (.int n) H'
theorem ok_cr {f : Addr} {fd : FuncData} {k : Nat} (F : Fun K "_law_carrying" "_law_carrying" s_law_carrying f fd) (mn : mg "len" = none) : FnOk P w K mg base CX0 (k + 1) f fd ["deeds"] (spCr K) := by
  refine F.ok sc_law_carrying (fun vs H Q E h => ?_) (fun cdv A outer s H vs Q E hr h => ?_)
  · obtain ⟨L, rs, ds, rfl, _⟩ := h
    rfl
  · obtain ⟨L, rs, ds, rfl, eL, hd, hl, q⟩ := h
    refine ⟨_, pss_one (ps_ret (pe_callB call_len_seq (by rfl) mn PySem.boot_len (pa_cons
      (pe_lc (own := [("deed", 1)]) (g := gName 1) (by rfl) sc_law_carrying.nd (pi_list (pv 0)) (blkOk_by (own := [("deed", 1)]) (N := N_law_carrying) (sc := defScope s_law_carrying) (by decide +kernel))
        (fun _ _ _ _ _ => pg_name (i := 1) sc_law_carrying.nd rfl (Or.inl rfl)) (fun _ _ _ _ _ => pts_one (pt_cmpR (r := rIn K false) op_in_seq (pe_ix (r := rIxT K) ix_tup (pv 1) pe_int (fun _ _ => rfl)) (pe_tup (pa_cons pe_str (pa_cons pe_str (pa_cons pe_str (pa_cons pe_str (pa_cons pe_str pa_nil)))))) (by rfl)))
        (fun _ _ _ _ _ => pv 1)) pa_nil))), ?_⟩
    refine ⟨.ref L, rfl, L, rfl, ⟨_, eL⟩, fun C hC => ?_⟩
    refine lc_list (K := K) (a := L) (xs := rs.map V.ref) (fun i H4 => ∃ ys : List V, ys.length ≤ i ∧ H4 C = some (.lst ys) ∧ Same H H4) ⟨[], Nat.le_refl _, upd_same, same_new hC⟩ (fun i H4 _ hp => ?_) (fun i x H4 hx hp => ?_) (fun H4 hp => ?_)
    · obtain ⟨_, _, _, sm⟩ := hp
      exact sm.seq eL
    · obtain ⟨ys, hy, eC, sm⟩ := hp
      have hi : i < rs.length := by
        have := (List.getElem?_eq_some_iff.mp hx).1
        rwa [List.length_map] at this
      have hx' : x = .ref rs[i] := by
        rw [List.getElem?_map, List.getElem?_eq_getElem hi] at hx
        exact (Option.some.inj hx).symm
      subst hx'
      obtain ⟨d, hd1, hd2⟩ := awGet hd (List.getElem?_eq_getElem hi)
      have old : ∀ H6, Same H H6 → ∀ o, Same H (upd H6 C o) := fun H6 s6 o b u e => by
        rw [upd_ne (ne_of_none e hC)]
        exact s6 b u e
      refine ⟨rfl, .ref rs[i], rfl, rs[i], _, 0, .str d.1, rfl, rfl, SqT.of (sm _ _ hd2), dv0 d, by show 5 ≤ sizeLine; decide, fun T hT => ?_⟩
      have sT := sm.trans (same_new (o := .tup [.str "add", .str "sub", .str "twice", .str "neg", .str "one"]) hT)
      have eCT : upd H4 T (.tup [.str "add", .str "sub", .str "twice", .str "neg", .str "one"]) C = some (.lst ys) := same_new hT _ _ eC
      refine ⟨T, _, rfl, .inr (SqT.of upd_same), rfl, rfl, _, rfl, ite2 (fun e => ?_) (fun e => ?_)⟩
      · refine ⟨.ref rs[i], rfl, ys, eCT, ?_, ys ++ [.ref rs[i]], ?_, upd_same, old _ sT _⟩
        · have := awLen hd
          exact small1000 (by omega)
        · rw [List.length_append]
          exact Nat.succ_le_succ hy
      · exact ⟨ys, by omega, eCT, sT⟩
    · obtain ⟨ys, hy, eC, sm⟩ := hp
      exact ⟨C, ys, rfl, .inl (.inl (.inl eC)), q _ _ sm⟩
/-! ### a row off the tape -/
def spTr : Sp := fun vs H Q _ => ∃ (a : Addr) (m n lf : Int), vs = [.ref a, .int m, .int n, .int lf] ∧ 1 ≤ m ∧ m ≤ 3 ∧ 0 ≤ n ∧ n ≤ 8 ∧ TP H a ∧
  ∀ H' R ds o, RowAt H' R m ds o → RowOk m ds o → (ds.length : Int) ≤ n → TP H' a → But a H H' → Q (.ref R) H'
theorem ok_tr {f fD fE fC : Addr} {fd fdD fdE fdC : FuncData} {k : Nat} (F : Fun K "_law_row" "_law_row" s_law_row f fd) (GD : FnOk P w K mg base CX0 (k + 1) fD fdD ["tape", "many"] spDigit) (kD : PySem.W.keepIn K (.ref fD) = true)
    (GE : FnOk P w K mg base CX0 (k + 2) fE fdE ["tape", "ahead", "left"] spTd) (kE : PySem.W.keepIn K (.ref fE) = true) (GC : FnOk P w K mg base CX0 (k + 1) fC fdC ["deeds"] (spCr K)) (kC : PySem.W.keepIn K (.ref fC) = true)
    (bD : Binds K fdD ["tape", "many"] []) (bE : Binds K fdE ["tape", "ahead", "left"] []) (bC : Binds K fdC ["deeds"] []) (gD : mg "_law_digit" = some (.ref fD)) (gE : mg "_law_deed" = some (.ref fE)) (gC : mg "_law_carrying" = some (.ref fC))
    (mt : mg "tuple" = none) (mr : mg "range" = none) (mn : mg "len" = none) : FnOk P w K mg base CX0 (k + 3) f fd ["tape", "many", "most", "left"] spTr := by
  refine F.ok sc_law_row (fun vs H Q E h => ?_) (fun cdv A outer s H vs Q E hr h => ?_)
  · obtain ⟨a, m, n, lf, rfl, _⟩ := h
    rfl
  · obtain ⟨a, m, n, lf, rfl, hm, hm2, hn, hn2, ht, q⟩ := h
    have hr1 := hr.mono (show k + 1 ≤ k + 2 by omega)
    refine ⟨_, pss_cons (ps_set (i := 4) sc_law_row.nd rfl (.inl rfl) (pe_lst pa_nil))
      (pss_cons (ps_for PassesOwn.never rfl (pi_range1 (by rfl) mr (pa_cons (pe_call GD hr1 (by rfl) gD kD bD .nil pass0 (pa_cons (pv 0) (pa_cons (pe_op op_add (pv 2) pe_int) pa_nil))) pa_nil)) (pg_name (i := 5) sc_law_row.nd rfl (.inl rfl))
        (pss_one (ps_expr (pe_bm PySem.F.plainAttrs_list PySem.F.slot_list_append PySem.F.type_list_append mt_append (pv 4) (pa_cons (pe_call GE hr (by rfl) gE kE bE .nil pass0 (pa_cons (pv 0) (pa_cons (pe_op op_add (pv 1) (pv 5)) (pa_cons (pe_op op_sub (pv 3) (pe_call GC hr1 (by rfl) gC kC bC .nil pass0 (pa_cons (pv 4) pa_nil))) pa_nil)))) pa_nil)))))
      (pss_cons (ps_set (i := 6) sc_law_row.nd rfl (.inl rfl) (pe_op op_sub (pe_op op_add (pv 1) (pe_callB call_len_seq (by rfl) mn PySem.boot_len (pa_cons (pv 4) pa_nil))) pe_int))
      (pss_mid (ps_if (pt_cmpR op_eq (pe_call GD hr1 (by rfl) gD kD bD .nil pass0 (pa_cons (pv 0) (pa_cons pe_int pa_nil))) pe_int (nomark _)) (pss_one (ps_set (i := 6) sc_law_row.nd rfl (.inl rfl) (pe_call GD hr1 (by rfl) gD kD bD .nil pass0 (pa_cons (pv 0) (pa_cons (pe_op op_add (pv 1) (pe_callB call_len_seq (by rfl) mn PySem.boot_len (pa_cons (pv 4) pa_nil))) pa_nil))))) pss_nil)
      (pss_one (ps_ret (pe_tup (pa_cons (pv 1) (pa_cons (pe_callTy call_tuple_of (by rfl) mt (by decide +kernel) (pa_cons (pv 4) pa_nil)) (pa_cons (pv 6) pa_nil))))))))), ?_⟩
    refine ⟨Nat.zero_le _, fun D hD => ?_⟩
    have nD := ht.ne_new hD
    have sD := same_new (o := .lst []) hD
    refine ⟨.ref a, rfl, .int n, rfl, n, 1, rfl, rfl, a, n + 1, rfl, by omega, by omega, ht.upd nD, fun H1 sz z0 z1 t1 b1 => ?_⟩
    have bH : But a H H1 := (But.same sD).trans b1
    refine ⟨sz, rfl, by omega, by omega, for_range (lo := 0) (n := sz.toNat) (fun i σ H3 => ∃ y rs ds, σ = [some (.ref a), some (.int m), some (.int n), some (.int lf), some (.ref D), y, none] ∧ H3 D = some (.lst (rs.map V.ref)) ∧ DsAt H3 rs ds ∧ ds.length = i ∧ DsOk m ds ∧ TP H3 a ∧ But a H H3)
      ⟨none, [], [], rfl, b1 _ _ nD upd_same, .nil, rfl, ⟨fun k d e => by simp at e⟩, t1, bH⟩ (fun i σ H3 hi hp => ?_) (fun σ H3 hp => ?_)⟩
    · obtain ⟨y, rs, ds, rfl, eD, hd, hl, ok, t3, b3⟩ := hp
      refine ⟨.ref D, rfl, .inl ⟨rfl, _, .inl (.inl eD)⟩, .ref a, rfl, .int m, rfl, .int (0 + i), rfl, m, 0 + i, rfl, rfl, .int lf, rfl, .ref D, rfl, D, rs, ds, rfl, .inl (.inl eD), hd, by omega, fun H4 nn s4 => ?_⟩
      refine ⟨lf, nn, rfl, rfl, a, m + (0 + i), lf - nn, rfl, by omega, by omega, t3.same s4, fun H5 r d hok er t5 b5 => ?_⟩
      have eD5 := b5 _ _ nD (s4 _ _ eD)
      refine ⟨D, _, _, rfl, rfl, eD5, ?_, some (.int (0 + i)), rs ++ [r], ds ++ [d], rfl, ?_, ?_, ?_, ?_, t5.upd nD, ?_⟩
      · rw [List.length_map, awLen hd]
        exact small1000 (by omega)
      · rw [upd_same, List.map_append]
        rfl
      · exact (tups_put eD5).ds (awSnoc (F := fun r d => H5 r = some (.tup (dV d))) er ((b5.tape (t3.same s4)).ds ((Same.tups s4).ds hd)))
      · rw [List.length_append, hl]
        rfl
      · refine dsOk_snoc ok ?_
        rw [hl]
        have : m + (0 + (i : Int)) = m + i := by omega
        rw [this] at hok
        exact hok
      · intro b o nb e
        have nbD : b ≠ D := ne_of_none e hD
        rw [upd_ne nbD]
        exact b5 b o nb (s4 b o (b3 b o nb e))
    · obtain ⟨y, rs, ds, rfl, eD, hd, hl, ok, t3, b3⟩ := hp
      have elen : ((rs.map V.ref).length : Int) = ds.length := by rw [List.length_map, awLen hd]
      refine ⟨.int m, rfl, .ref D, rfl, D, _, rfl, .inl (.inl (.inl eD)), m, _, rfl, rfl, _, 1, rfl, rfl, ?_⟩
      refine ⟨fun σ4 H4 => ∃ o, σ4 = [some (.ref a), some (.int m), some (.int n), some (.int lf), some (.ref D), y, some (.int o)] ∧ 0 ≤ o ∧ o < m + ds.length ∧ H4 D = some (.lst (rs.map V.ref)) ∧ DsAt H4 rs ds ∧ TP H4 a ∧ But a H H4, ?_, ?_⟩
      · refine ⟨.ref a, rfl, a, 5, rfl, by decide, by decide, t3, fun H4 u u0 u1 t4 b4 => ⟨rfl, _, rfl, ite2 (fun e => ?_) (fun e => ?_)⟩⟩
        · refine ⟨.ref a, rfl, .int m, rfl, .ref D, rfl, D, _, rfl, .inl (.inl (.inl (b4 _ _ nD eD))), m, _, rfl, rfl, a, _, rfl, by omega, by omega, t4, fun H5 o o0 o1 t5 b5 => ?_⟩
          exact ⟨o, rfl, o0, by omega, b5 _ _ nD (b4 _ _ nD eD), ((b4.tape t3).trans (b5.tape t4)).ds hd, t5, (b3.trans b4).trans b5⟩
        · exact ⟨m + ((rs.map V.ref).length : Int) - 1, rfl, by omega, by omega, b4 _ _ nD eD, (b4.tape t3).ds hd, t4, b3.trans b4⟩
      · rintro σ4 H4 ⟨o, rfl, o0, o1, eD4, hd4, t4, b4⟩
        refine ⟨.int m, rfl, .ref D, rfl, D, _, rfl, .inl ⟨.inl (.inl eD4), fun T hT => ?_⟩⟩
        refine ⟨.int o, rfl, by show 3 ≤ sizeLine; decide, fun R hR => ?_⟩
        have s1 : Same H4 (upd H4 T (.tup (rs.map V.ref))) := same_new hT
        have s2 := same_new (o := .tup [.int m, .ref T, .int o]) hR
        exact q _ R ds o ⟨T, rs, upd_same, s2 _ _ upd_same, (Same.tups (s1.trans s2)).ds hd4⟩ ⟨hm, hm2, by omega, ok, o0, by omega⟩ (by omega) (t4.same (s1.trans s2)) (b4.trans (But.same (s1.trans s2)))
/-! ### first_carry -/
def spFc : Sp := fun vs H Q _ => ∃ (R : Addr) (m o : Int) (ds : List Deed), vs = [.ref R] ∧ RowAt H R m ds o ∧ ds.length ≤ 100 ∧ ∀ H' p, Same H H' → H p = none → H' p = some (.tup ((ds.map fcD).map V.int)) → Q (.ref p) H'
theorem ok_fc {f : Addr} {fd : FuncData} {k : Nat} (F : Fun K "first_carry" "first_carry" s_first_carry f fd) (mt : mg "tuple" = none) : FnOk P w K mg base CX0 (k + 1) f fd ["row"] spFc := by
  refine F.ok sc_first_carry (fun vs H Q E h => ?_) (fun cdv A outer s H vs Q E hr h => ?_)
  · obtain ⟨R, m, o, ds, rfl, _⟩ := h
    rfl
  · obtain ⟨R, m, o, ds, rfl, hrow, hl, q⟩ := h
    obtain ⟨D, rs, eR, eD, hd⟩ := id hrow
    refine ⟨_, pss_one (ps_ret (pe_callTy call_tuple_of (by rfl) mt (by decide +kernel) (pa_cons
      (pe_lc (own := [("deed", 1)]) (g := gName 1) (by rfl) sc_first_carry.nd (pi_tup (pe_ix ix_tup (pv 0) pe_int (fun _ _ => rfl))) (blkOk_by (own := [("deed", 1)]) (N := N_first_carry) (sc := defScope s_first_carry) (by decide +kernel))
        (fun _ _ _ _ _ => pg_name (i := 1) sc_first_carry.nd rfl (Or.inl rfl)) (fun _ _ _ _ _ => pts_nil)
        (fun _ _ _ _ _ => pe_ifExp (pt_cmpR (r := rIn K false) op_in_seq (pe_ix (r := rIxT K) ix_tup (pv 1) pe_int (fun _ _ => rfl)) (pe_tup (pa_cons pe_str (pa_cons pe_str pa_nil))) (by rfl)) pe_int pe_int)) pa_nil))), ?_⟩
    refine ⟨.ref R, rfl, R, _, 1, .ref D, rfl, rfl, SqT.of eR, rfl, D, rfl, ⟨_, SqT.of eD⟩, fun L hL => ?_⟩
    refine lc_tup (K := K) (a := D) (xs := rs.map V.ref) (fun i H4 => H4 L = some (.lst (((ds.take i).map fcD).map V.int)) ∧ Same H H4) ⟨upd_same, same_new hL⟩ (fun i H4 _ hp => SqT.of (hp.2 _ _ eD)) (fun i x H4 hx hp => ?_) (fun H4 hp => ?_)
    · obtain ⟨eL, sm⟩ := hp
      have hi : i < rs.length := by
        have := (List.getElem?_eq_some_iff.mp hx).1
        rwa [List.length_map] at this
      have hx' : x = .ref rs[i] := by
        rw [List.getElem?_map, List.getElem?_eq_getElem hi] at hx
        exact (Option.some.inj hx).symm
      subst hx'
      obtain ⟨d, hd1, hd2⟩ := awGet hd (List.getElem?_eq_getElem hi)
      refine ⟨rfl, .ref rs[i], rfl, rs[i], _, 0, .str d.1, rfl, rfl, SqT.of (sm _ _ hd2), dv0 d, by show 2 ≤ sizeLine; decide, fun T hT => ?_⟩
      have sT := same_new (o := .tup [.str "neg", .str "one"]) hT
      have eL2 := sT _ _ eL
      have old : ∀ o, Same H (upd (upd H4 T (.tup [.str "neg", .str "one"])) L o) := fun o b u e => by
        rw [upd_ne (ne_of_none e hL)]
        exact sT b u (sm b u e)
      have small : (((ds.take i).map fcD).map V.int).length < sizeLine := by
        rw [List.length_map, List.length_map, List.length_take]
        exact small1000 (by omega)
      have hin := inS d.1 ["neg", "one"]
      refine ⟨T, _, rfl, .inr (SqT.of upd_same), rfl, rfl, _, rfl, ite2 (fun e => ?_) (fun e => ?_)⟩
      · have hm : d.1 ∈ (["neg", "one"] : List Str) := of_decide_eq_true (hin.symm.trans e)
        have e1 : fcD d = 1 := if_pos hm
        refine ⟨_, eL2, small, ?_, old _⟩
        rw [upd_same, List.take_add_one, hd1]
        simp [e1]
      · have hm : ¬ d.1 ∈ (["neg", "one"] : List Str) := fun z => e (hin.trans (decide_eq_true z))
        have e1 : fcD d = 0 := if_neg hm
        refine ⟨_, eL2, small, ?_, old _⟩
        rw [upd_same, List.take_add_one, hd1]
        simp [e1]
    · obtain ⟨eL, sm⟩ := hp
      rw [List.length_map, awLen hd, List.take_length] at eL
      refine ⟨L, _, rfl, .inl ⟨.inl (.inl eL), fun p hp => ?_⟩⟩
      exact q _ p (sm.trans (same_new hp)) (sm.free hp) upd_same
/-! ### deed_bit, bits_of -/
def spDb (K : PySem.W.Frag) : Sp := fun vs H Q _ => ∃ (r L : Addr) (d : Deed) (told : List Int) (c : Int), vs = [.ref r, .int c, .ref L] ∧ H r = some (.tup (dV d)) ∧ SqL K H L (told.map V.int) ∧ DeedOk told.length d ∧ Q (.int (dbitAt d c told)) H
theorem ok_db {f : Addr} {fd : FuncData} {k : Nat} (F : Fun K "deed_bit" "deed_bit" s_deed_bit f fd) : FnOk P w K mg base CX0 (k + 1) f fd ["deed", "held", "told"] (spDb K) := by
  refine F.ok sc_deed_bit (fun vs H Q E h => ?_) (fun cdv A outer s H vs Q E hr h => ?_)
  · obtain ⟨r, L, d, told, c, rfl, _⟩ := h
    rfl
  · obtain ⟨r, L, d, told, c, rfl, er, eL, ok, q⟩ := h
    refine ⟨_, pss_cons (ps_set (i := 3) sc_deed_bit.nd rfl (.inl rfl) (pe_ix ix_tup (pv 0) pe_int (fun _ _ => rfl)))
      (pss_cons (ps_if (pt_cmpR op_eq (pv 3) pe_str (nomark _)) (pss_one (ps_ret pe_int)) pss_nil)
      (pss_cons (ps_if (pt_cmpR op_eq (pv 3) pe_str (nomark _)) (pss_one (ps_ret pe_int)) pss_nil)
      (pss_cons (ps_if (PW.pt (pw_or (pt_cmpR op_eq (pv 3) pe_str (nomark _)) (pw_or1 (pt_cmpR op_eq (pv 3) pe_str (nomark _))))) (pss_one (ps_ret (pv 1))) pss_nil)
      (pss_cons (ps_set (i := 4) sc_deed_bit.nd rfl (.inl rfl) (pe_ix ix_list (pv 2) (pe_ix ix_tup (pv 0) pe_int (fun _ _ => rfl)) (fun _ _ => rfl)))
      (pss_cons (ps_if (pt_cmpR op_eq (pv 3) pe_str (nomark _)) (pss_one (ps_ret (pe_op op_sub pe_int (pv 4)))) pss_nil)
      (pss_cons (ps_if (pt_cmpR op_eq (pv 3) pe_str (nomark _)) (pss_one (ps_ret (pe_op op_xor (pe_op op_sub pe_int (pv 4)) (pv 1)))) pss_nil)
      (pss_cons (ps_set (i := 5) sc_deed_bit.nd rfl (.inl rfl) (pe_ix ix_list (pv 2) (pe_ix ix_tup (pv 0) pe_int (fun _ _ => rfl)) (fun _ _ => rfl)))
      (pss_cons (ps_if (pt_cmpR op_eq (pv 3) pe_str (nomark _)) (pss_one (ps_ret (pe_op op_and (pv 4) (pv 5)))) pss_nil)
      (pss_cons (ps_if (pt_cmpR op_eq (pv 3) pe_str (nomark _)) (pss_one (ps_ret (pe_op op_or (pv 4) (pv 5)))) pss_nil)
      (pss_cons (ps_if (pt_cmpR op_eq (pv 3) pe_str (nomark _)) (pss_one (ps_ret (pe_op op_xor (pv 4) (pv 5)))) pss_nil)
      (pss_one (ps_ret (pe_op op_xor (pe_op op_xor (pv 4) (pv 5)) (pv 1)))))))))))))), ?_⟩
    unfold dbitAt dbit at q
    refine ⟨.ref r, rfl, r, _, 0, .str d.1, rfl, rfl, SqT.of er, dv0 d, ?_⟩
    refine ⟨.str d.1, rfl, rfl, _, rfl, ite2 (fun e => ?_) (fun n1 => ?_)⟩
    · rw [if_pos (strEq e)] at q
      exact q
    rw [if_neg (strNe n1)] at q
    refine ⟨.str d.1, rfl, rfl, _, rfl, ite2 (fun e => ?_) (fun n2 => ?_)⟩
    · rw [if_pos (strEq e)] at q
      exact q
    rw [if_neg (strNe n2)] at q
    refine ⟨.str d.1, rfl, rfl, _, rfl, ite2 (fun e => ?_) (fun n3 => ?_)⟩
    · rw [if_pos (strEq e)] at q
      exact ⟨.int c, rfl, q⟩
    rw [if_neg (strNe n3)] at q
    refine ⟨.str d.1, rfl, rfl, _, rfl, ite2 (fun e => ?_) (fun n4 => ?_)⟩
    · rw [if_pos (strEq e)] at q
      exact ⟨.int c, rfl, q⟩
    rw [if_neg (strNe n4)] at q
    obtain ⟨i, hi, ai, ei⟩ := arg1 ok (strNe n1) (strNe n3) (strNe n2)
    refine ⟨.ref L, rfl, .ref r, rfl, r, _, 1, .int i, rfl, rfl, SqT.of er, dvN (k := 0) hi, L, _, i, .int (argAt d told 0), rfl, rfl, eL, ei, ?_⟩
    refine ⟨.str d.1, rfl, rfl, _, rfl, ite2 (fun e => ?_) (fun n5 => ?_)⟩
    · rw [if_pos (strEq e)] at q
      exact ⟨.int _, rfl, 1, _, rfl, rfl, q⟩
    rw [if_neg (strNe n5)] at q
    refine ⟨.str d.1, rfl, rfl, _, rfl, ite2 (fun e => ?_) (fun n6 => ?_)⟩
    · rw [if_pos (strEq e)] at q
      exact ⟨.int _, rfl, 1, _, rfl, rfl, .int c, rfl, _, _, rfl, rfl, q⟩
    rw [if_neg (strNe n6)] at q
    obtain ⟨j, hj, aj, ej⟩ := arg2 ok (strNe n1) (strNe n3) (strNe n2) (strNe n5) (strNe n6) (strNe n4)
    refine ⟨.ref L, rfl, .ref r, rfl, r, _, 2, .int j, rfl, rfl, SqT.of er, dvN (k := 1) hj, L, _, j, .int (argAt d told 1), rfl, rfl, eL, ej, ?_⟩
    refine ⟨.str d.1, rfl, rfl, _, rfl, ite2 (fun e => ?_) (fun n7 => ?_)⟩
    · rw [if_pos (strEq e)] at q
      exact ⟨.int _, rfl, .int _, rfl, _, _, rfl, rfl, q⟩
    rw [if_neg (strNe n7)] at q
    refine ⟨.str d.1, rfl, rfl, _, rfl, ite2 (fun e => ?_) (fun n8 => ?_)⟩
    · rw [if_pos (strEq e)] at q
      exact ⟨.int _, rfl, .int _, rfl, _, _, rfl, rfl, q⟩
    rw [if_neg (strNe n8)] at q
    refine ⟨.str d.1, rfl, rfl, _, rfl, ite2 (fun e => ?_) (fun n9 => ?_)⟩
    · rw [if_pos (strEq e)] at q
      exact ⟨.int _, rfl, .int _, rfl, _, _, rfl, rfl, q⟩
    rw [if_neg (strNe n9)] at q
    exact ⟨.int _, rfl, .int _, rfl, _, _, rfl, rfl, .int c, rfl, _, _, rfl, rfl, q⟩
def spBo : Sp := fun vs H Q _ => ∃ (R C B : Addr) (m o : Int) (ds : List Deed) (cs bs : List Int), vs = [.ref R, .ref C, .ref B] ∧ RowAt H R m ds o ∧ DsOk m ds ∧ ds.length ≤ 100 ∧ H C = some (.tup (cs.map V.int)) ∧ cs.length = ds.length ∧ H B = some (.tup (bs.map V.int)) ∧ (bs.length : Int) = m ∧ bs.length ≤ 100 ∧
  ∀ H' p, Same H H' → H p = none → H' p = some (.tup ((bts ds cs bs).map V.int)) → Q (.ref p) H'
theorem ok_bo {f fB : Addr} {fd fdB : FuncData} {k : Nat} (F : Fun K "bits_of" "bits_of" s_bits_of f fd) (GB : FnOk P w K mg base CX0 (k + 1) fB fdB ["deed", "held", "told"] (spDb K)) (kB : PySem.W.keepIn K (.ref fB) = true) (bB : Binds K fdB ["deed", "held", "told"] []) (gB : mg "deed_bit" = some (.ref fB))
    (ml : mg "list" = none) (mt : mg "tuple" = none) (mz : mg "zip" = none) : FnOk P w K mg base CX0 (k + 2) f fd ["row", "carry", "bits"] spBo := by
  refine F.ok sc_bits_of (fun vs H Q E h => ?_) (fun cdv A outer s H vs Q E hr h => ?_)
  · obtain ⟨R, C, B, m, o, ds, cs, bs, rfl, _⟩ := h
    rfl
  · obtain ⟨R, C, B, m, o, ds, cs, bs, rfl, hrow, hok, hds, eC, hcl, eB, hm, hbl, q⟩ := h
    obtain ⟨D, rs, eR, eD, hd⟩ := id hrow
    refine ⟨_, pss_cons (ps_set (i := 3) sc_bits_of.nd rfl (.inl rfl) (pe_callTy call_list_of (by rfl) ml (by decide +kernel) (pa_cons (pv 2) pa_nil)))
      (pss_cons (ps_for PassesOwn.never rfl (RZ.pi_zipA (by rfl) mz (pa_cons (pe_ix ix_tup (pv 0) pe_int (fun _ _ => rfl)) (pa_cons (pv 1) pa_nil))) (pg_tup rfl (pgs_cons (pg_name (i := 4) sc_bits_of.nd rfl (.inl rfl)) (pgs_cons (pg_name (i := 5) sc_bits_of.nd rfl (.inl rfl)) pgs_nil)))
        (pss_one (ps_expr (pe_bm PySem.F.plainAttrs_list PySem.F.slot_list_append PySem.F.type_list_append mt_append (pv 3) (pa_cons (pe_call GB hr (by rfl) gB kB bB .nil pass0 (pa_cons (pv 4) (pa_cons (pv 5) (pa_cons (pv 3) pa_nil)))) pa_nil)))))
      (pss_one (ps_ret (pe_callTy call_tuple_of (by rfl) mt (by decide +kernel) (pa_cons (pv 3) pa_nil))))), ?_⟩
    refine ⟨.ref B, rfl, B, _, rfl, .inr (SqT.of eB), fun L hL => ?_⟩
    have sL := same_new (o := .lst (bs.map V.int)) hL
    have lrs : (rs.map V.ref).length = ds.length := by rw [List.length_map, awLen hd]
    have lcs : (cs.map V.int).length = ds.length := by rw [List.length_map, hcl]
    refine ⟨.ref R, rfl, R, _, 1, .ref D, rfl, rfl, SqT.of (sL _ _ eR), rfl, .ref C, rfl, D, C, _, _, rfl, .inr ⟨SqT.of (sL _ _ eD), SqT.of (sL _ _ eC), RZ.for_zipT (K := K) (xs := rs.map V.ref) (ys := cs.map V.int) (lrs.trans lcs.symm) (fun i σ H3 => ∃ y4 y5, σ = [some (.ref R), some (.ref C), some (.ref B), some (.ref L), y4, y5] ∧ H3 L = some (.lst ((bts (ds.take i) (cs.take i) bs).map V.int)) ∧ Same H H3) ⟨none, none, rfl, by rw [upd_same]; cases ds <;> rfl, sL⟩ (fun i σ H3 hp => ?_) (fun i x y T σ H3 hx hy hp hT => ?_) (fun σ H3 hp => ?_)⟩⟩
    · obtain ⟨_, _, _, _, sm⟩ := hp
      exact ⟨SqT.of (sm _ _ eD), SqT.of (sm _ _ eC)⟩
    · obtain ⟨y4, y5, rfl, e3, sm⟩ := hp
      have hi : i < rs.length := by
        have := (List.getElem?_eq_some_iff.mp hx).1
        rwa [List.length_map] at this
      have hx' : x = .ref rs[i] := by
        rw [List.getElem?_map, List.getElem?_eq_getElem hi] at hx
        exact (Option.some.inj hx).symm
      subst hx'
      obtain ⟨d, hd1, hd2⟩ := awGet hd (List.getElem?_eq_getElem hi)
      obtain ⟨c, hc, rfl⟩ : ∃ c, cs[i]? = some c ∧ y = .int c := by
        rw [List.getElem?_map] at hy
        cases e : cs[i]? with
        | none => rw [e] at hy; cases hy
        | some c => rw [e] at hy; exact ⟨c, rfl, (Option.some.inj hy).symm⟩
      have h2 : i < ds.length := by
        rw [← awLen hd]
        exact hi
      have hlen : (bts (ds.take i) (cs.take i) bs).length = bs.length + i := by
        rw [bts_len (by rw [List.length_take, List.length_take, hcl]), List.length_take, Nat.min_eq_left (Nat.le_of_lt h2)]
      have okd : DeedOk (bts (ds.take i) (cs.take i) bs).length d := by
        rw [hlen]
        have := hok.each i d hd1
        rw [← hm] at this
        exact this
      have sT := same_new (o := .tup [.ref rs[i], .int c]) hT
      have e4 := sT _ _ e3
      refine ⟨T, [.ref rs[i], .int c], rfl, .inl (.inl upd_same), rfl, .ref rs[i], [.int c], rfl, .int c, [], rfl, rfl, ?_⟩
      refine ⟨.ref L, rfl, .inl ⟨rfl, _, .inl (.inl e4)⟩, .ref rs[i], rfl, .int c, rfl, .ref L, rfl, rs[i], L, d, _, c, rfl, sT _ _ (sm _ _ hd2), .inl (.inl e4), okd, L, _, _, rfl, rfl, e4, ?_, some (.ref rs[i]), some (.int c), rfl, ?_, ?_⟩
      · rw [List.length_map, hlen]
        exact small1000 (by omega)
      · rw [upd_same, bts_next hd1 hc, List.map_append]
        rfl
      · intro b u e
        rw [upd_ne (ne_of_none e hL)]
        exact sT b u (sm b u e)
    · obtain ⟨y4, y5, rfl, e3, sm⟩ := hp
      rw [lrs, List.take_length, ← hcl, List.take_length] at e3
      refine ⟨.ref L, rfl, L, _, rfl, .inl ⟨.inl (.inl e3), fun p hp => ?_⟩⟩
      exact q _ p (sm.trans (same_new hp)) (sm.free hp) upd_same
/-! ### two_or_more, deed_carry -/
def spTm : Sp := fun vs H Q _ => ∃ a b c : Int, vs = [.int a, .int b, .int c] ∧ Q (.int ((a + b + c) / 2)) H
theorem ok_tm {f : Addr} {fd : FuncData} {k : Nat} (F : Fun K "two_or_more" "two_or_more" s_two_or_more f fd) : FnOk P w K mg base CX0 (k + 1) f fd ["one", "other", "third"] spTm := by
  refine F.ok sc_two_or_more (fun vs H Q E h => ?_) (fun cdv A outer s H vs Q E hr h => ?_)
  · obtain ⟨a, b, c, rfl, _⟩ := h
    rfl
  · obtain ⟨a, b, c, rfl, q⟩ := h
    refine ⟨_, pss_one (ps_ret (pe_op op_fdiv (pe_op op_add (pe_op op_add (pv 0) (pv 1)) (pv 2)) pe_int)), ?_⟩
    exact ⟨.int a, rfl, .int b, rfl, a, b, rfl, rfl, .int c, rfl, _, c, rfl, rfl, _, 2, rfl, rfl, ⟨by decide, by decide⟩, q⟩
def spDc : Sp := fun vs H Q _ => ∃ (r L : Addr) (d : Deed) (told : List Int) (c : Int), vs = [.ref r, .int c, .ref L] ∧ H r = some (.tup (dV d)) ∧ H L = some (.tup (told.map V.int)) ∧ DeedOk told.length d ∧ Q (.int (dcarAt d c told)) H
theorem ok_dc {f fT : Addr} {fd fdT : FuncData} {k : Nat} (F : Fun K "deed_carry" "deed_carry" s_deed_carry f fd) (GT : FnOk P w K mg base CX0 (k + 1) fT fdT ["one", "other", "third"] spTm) (kT : PySem.W.keepIn K (.ref fT) = true) (bT : Binds K fdT ["one", "other", "third"] []) (gT : mg "two_or_more" = some (.ref fT)) :
    FnOk P w K mg base CX0 (k + 2) f fd ["deed", "held", "told"] spDc := by
  refine F.ok sc_deed_carry (fun vs H Q E h => ?_) (fun cdv A outer s H vs Q E hr h => ?_)
  · obtain ⟨r, L, d, told, c, rfl, _⟩ := h
    rfl
  · obtain ⟨r, L, d, told, c, rfl, er, eL, ok, q⟩ := h
    refine ⟨_, pss_cons (ps_set (i := 3) sc_deed_carry.nd rfl (.inl rfl) (pe_ix ix_tup (pv 0) pe_int (fun _ _ => rfl)))
      (pss_cons (ps_if (pt_cmpR op_eq (pv 3) pe_str (nomark _)) (pss_one (ps_ret (pe_op op_and (pe_op op_sub pe_int (pe_ix ix_tup (pv 2) (pe_ix ix_tup (pv 0) pe_int (fun _ _ => rfl)) (fun _ _ => rfl))) (pv 1)))) pss_nil)
      (pss_cons (ps_if (pt_cmpR op_eq (pv 3) pe_str (nomark _)) (pss_one (ps_ret (pe_ix ix_tup (pv 2) (pe_ix ix_tup (pv 0) pe_int (fun _ _ => rfl)) (fun _ _ => rfl)))) pss_nil)
      (pss_cons (ps_if (pt_cmpR op_eq (pv 3) pe_str (nomark _)) (pss_one (ps_ret (pe_call GT hr (by rfl) gT kT bT .nil pass0 (pa_cons (pe_ix ix_tup (pv 2) (pe_ix ix_tup (pv 0) pe_int (fun _ _ => rfl)) (fun _ _ => rfl)) (pa_cons (pe_ix ix_tup (pv 2) (pe_ix ix_tup (pv 0) pe_int (fun _ _ => rfl)) (fun _ _ => rfl)) (pa_cons (pv 1) pa_nil)))))) pss_nil)
      (pss_cons (ps_if (pt_cmpR op_eq (pv 3) pe_str (nomark _)) (pss_one (ps_ret (pe_call GT hr (by rfl) gT kT bT .nil pass0 (pa_cons (pe_op op_sub pe_int (pe_ix ix_tup (pv 2) (pe_ix ix_tup (pv 0) pe_int (fun _ _ => rfl)) (fun _ _ => rfl))) (pa_cons (pe_ix ix_tup (pv 2) (pe_ix ix_tup (pv 0) pe_int (fun _ _ => rfl)) (fun _ _ => rfl)) (pa_cons (pv 1) pa_nil)))))) pss_nil)
      (pss_one (ps_ret pe_int)))))), ?_⟩
    unfold dcarAt dcar at q
    have lL : SqT K H L (told.map V.int) := SqT.of eL
    refine ⟨.ref r, rfl, r, _, 0, .str d.1, rfl, rfl, SqT.of er, dv0 d, ?_⟩
    refine ⟨.str d.1, rfl, rfl, _, rfl, ite2 (fun e => ?_) (fun n1 => ?_)⟩
    · rw [if_pos (strEq e)] at q
      have e2 := strEq e
      obtain ⟨i, hi, ai, ei⟩ := arg1 ok (by rw [e2]; decide +kernel) (by rw [e2]; decide +kernel) (by rw [e2]; decide +kernel)
      exact ⟨.ref L, rfl, .ref r, rfl, r, _, 1, .int i, rfl, rfl, SqT.of er, dvN (k := 0) hi, L, _, i, _, rfl, rfl, lL, ei, 1, _, rfl, rfl, .int c, rfl, _, _, rfl, rfl, q⟩
    rw [if_neg (strNe n1)] at q
    refine ⟨.str d.1, rfl, rfl, _, rfl, ite2 (fun e => ?_) (fun n2 => ?_)⟩
    · rw [if_pos (strEq e)] at q
      have e2 := strEq e
      obtain ⟨i, hi, ai, ei⟩ := arg1 ok (by rw [e2]; decide +kernel) (by rw [e2]; decide +kernel) (by rw [e2]; decide +kernel)
      exact ⟨.ref L, rfl, .ref r, rfl, r, _, 1, .int i, rfl, rfl, SqT.of er, dvN (k := 0) hi, L, _, i, _, rfl, rfl, lL, ei, q⟩
    rw [if_neg (strNe n2)] at q
    refine ⟨.str d.1, rfl, rfl, _, rfl, ite2 (fun e => ?_) (fun n3 => ?_)⟩
    · rw [if_pos (strEq e)] at q
      have e2 := strEq e
      obtain ⟨i, hi, ai, ei⟩ := arg1 ok (by rw [e2]; decide +kernel) (by rw [e2]; decide +kernel) (by rw [e2]; decide +kernel)
      obtain ⟨j, hj, aj, ej⟩ := arg2 ok (by rw [e2]; decide +kernel) (by rw [e2]; decide +kernel) (by rw [e2]; decide +kernel) (by rw [e2]; decide +kernel) (by rw [e2]; decide +kernel) (by rw [e2]; decide +kernel)
      exact ⟨.ref L, rfl, .ref r, rfl, r, _, 1, .int i, rfl, rfl, SqT.of er, dvN (k := 0) hi, L, _, i, _, rfl, rfl, lL, ei, .ref L, rfl, .ref r, rfl, r, _, 2, .int j, rfl, rfl, SqT.of er, dvN (k := 1) hj, L, _, j, _, rfl, rfl, lL, ej, .int c, rfl, _, _, c, rfl, q⟩
    rw [if_neg (strNe n3)] at q
    refine ⟨.str d.1, rfl, rfl, _, rfl, ite2 (fun e => ?_) (fun n4 => ?_)⟩
    · rw [if_pos (strEq e)] at q
      have e2 := strEq e
      obtain ⟨i, hi, ai, ei⟩ := arg1 ok (by rw [e2]; decide +kernel) (by rw [e2]; decide +kernel) (by rw [e2]; decide +kernel)
      obtain ⟨j, hj, aj, ej⟩ := arg2 ok (by rw [e2]; decide +kernel) (by rw [e2]; decide +kernel) (by rw [e2]; decide +kernel) (by rw [e2]; decide +kernel) (by rw [e2]; decide +kernel) (by rw [e2]; decide +kernel)
      exact ⟨.ref L, rfl, .ref r, rfl, r, _, 1, .int i, rfl, rfl, SqT.of er, dvN (k := 0) hi, L, _, i, _, rfl, rfl, lL, ei, 1, _, rfl, rfl, .ref L, rfl, .ref r, rfl, r, _, 2, .int j, rfl, rfl, SqT.of er, dvN (k := 1) hj, L, _, j, _, rfl, rfl, lL, ej, .int c, rfl, _, _, c, rfl, q⟩
    rw [if_neg (strNe n4)] at q
    exact q
theorem okd_more {m : Int} {i n : Nat} {d : Deed} (h : DeedOk (m + i) d) (hn : m + i ≤ n) : DeedOk n d := ⟨h.word, fun z hz => ⟨(h.ahead z hz).1, by have := (h.ahead z hz).2; omega⟩⟩
/-! ### carry_behind, steps, kept_steps -/
def spCb : Sp := fun vs H Q _ => ∃ (R C T : Addr) (m o : Int) (ds : List Deed) (cs told : List Int), vs = [.ref R, .ref C, .ref T] ∧ RowAt H R m ds o ∧ DsOk m ds ∧ ds.length ≤ 100 ∧ H C = some (.tup (cs.map V.int)) ∧ cs.length = ds.length ∧ H T = some (.tup (told.map V.int)) ∧ (told.length : Int) = m + ds.length ∧
  ∀ H' p, Same H H' → H p = none → H' p = some (.tup ((nxt ds cs told).map V.int)) → Q (.ref p) H'
theorem ok_cb {f fC : Addr} {fd fdC : FuncData} {k : Nat} (F : Fun K "carry_behind" "carry_behind" s_carry_behind f fd)
    (GC : FnOk P w K mg base CX0 (k + 2) fC fdC ["deed", "held", "told"] spDc) (kC : PySem.W.keepIn K (.ref fC) = true) (bC : Binds K fdC ["deed", "held", "told"] []) (gC : mg "deed_carry" = some (.ref fC)) (mt : mg "tuple" = none) (mz : mg "zip" = none) : FnOk P w K mg base CX0 (k + 3) f fd ["row", "carry", "told"] spCb := by
  refine F.ok sc_carry_behind (fun vs H Q E h => ?_) (fun cdv A outer s H vs Q E hr h => ?_)
  · obtain ⟨R, C, T, m, o, ds, cs, told, rfl, _⟩ := h
    rfl
  · obtain ⟨R, C, T, m, o, ds, cs, told, rfl, hrow, hok, hds, eC, hcl, eT, htl, q⟩ := h
    obtain ⟨D, rs, eR, eD, hd⟩ := id hrow
    refine ⟨_, pss_one (ps_ret (pe_callTy call_tuple_of (by rfl) mt (by decide +kernel) (pa_cons
        (pe_lc (own := [("deed", 3), ("held", 4)]) (g := gTup K 2 (gCons (gName 3) (gCons (gName 4) gNil))) (by rfl) sc_carry_behind.nd (RZ.pi_zipA (by rfl) mz (pa_cons (pe_ix ix_tup (pv 0) pe_int (fun _ _ => rfl)) (pa_cons (pv 1) pa_nil))) (blkOk_by (own := [("deed", 3), ("held", 4)]) (N := N_carry_behind) (sc := defScope s_carry_behind) (by decide +kernel))
          (fun _ _ _ _ _ => pg_tup rfl (pgs_cons (pg_name (i := 3) sc_carry_behind.nd rfl (.inl rfl)) (pgs_cons (pg_name (i := 4) sc_carry_behind.nd rfl (.inl rfl)) pgs_nil))) (fun _ _ _ _ _ => pts_nil)
          (fun _ _ _ _ _ => pe_call GC hr (by rfl) gC kC bC .nil pass0 (pa_cons (pv 3) (pa_cons (pv 4) (pa_cons (pv 2) pa_nil))))) pa_nil))), ?_⟩
    have lrs : (rs.map V.ref).length = ds.length := by rw [List.length_map, awLen hd]
    have lcs : (cs.map V.int).length = ds.length := by rw [List.length_map, hcl]
    refine ⟨.ref R, rfl, R, _, 1, .ref D, rfl, rfl, SqT.of eR, rfl, .ref C, rfl, D, C, _, _, rfl, .inr ⟨SqT.of eD, SqT.of eC, fun L hL => ?_⟩⟩
    refine lc_it (walk_zipT (K := K) (a := D) (b := C) (xs := rs.map V.ref) (ys := cs.map V.int) (lrs.trans lcs.symm)) (fun i H4 => H4 L = some (.lst (((nxt ds cs told).take i).map V.int)) ∧ Same H H4) ⟨upd_same, same_new hL⟩ (fun i H4 _ hp => ⟨SqT.of (hp.2 _ _ eD), SqT.of (hp.2 _ _ eC)⟩) (fun i x H4 H5 hi hp hy => ?_) (fun H4 hp => ?_)
    · obtain ⟨eL, sm⟩ := hp
      obtain ⟨U, x1, x2, rfl, hU, rfl, g1, g2⟩ := hy
      have hi2 : i < rs.length := by rwa [List.length_map] at hi
      have hx' : x1 = .ref rs[i] := by
        have g1' : (rs.map V.ref)[i]? = some x1 := g1
        rw [List.getElem?_map, List.getElem?_eq_getElem hi2] at g1'
        exact (Option.some.inj g1').symm
      subst hx'
      obtain ⟨d, hd1, hd2⟩ := awGet hd (List.getElem?_eq_getElem hi2)
      obtain ⟨c, hc, rfl⟩ : ∃ c, cs[i]? = some c ∧ x2 = .int c := by
        have g2' : (cs.map V.int)[i]? = some x2 := g2
        rw [List.getElem?_map] at g2'
        cases e : cs[i]? with
        | none => rw [e] at g2'; cases g2'
        | some c => rw [e] at g2'; exact ⟨c, rfl, (Option.some.inj g2').symm⟩
      have h2 : i < ds.length := by
        rw [← awLen hd]
        exact hi2
      have okd : DeedOk told.length d := okd_more (hok.each i d hd1) (by omega)
      have sU := same_new (o := .tup [.ref rs[i], .int c]) hU
      refine ⟨U, [.ref rs[i], .int c], rfl, .inl (.inl upd_same), rfl, .ref rs[i], [.int c], rfl, .int c, [], rfl, rfl, rfl, ?_⟩
      refine ⟨.ref rs[i], rfl, .int c, rfl, .ref T, rfl, rs[i], T, d, _, c, rfl, sU _ _ (sm _ _ hd2), sU _ _ (sm _ _ eT), okd, _, sU _ _ eL, ?_, ?_, ?_⟩
      · rw [List.length_map, List.length_take, nxt_len hcl.symm]
        exact small1000 (by omega)
      · rw [upd_same, nxt_next hd1 hc, List.map_append]
        rfl
      · intro b u e
        rw [upd_ne (ne_of_none e hL)]
        exact sU b u (sm b u e)
    · obtain ⟨eL, sm⟩ := hp
      rw [lrs, ← nxt_len (t := told) hcl.symm, List.take_length] at eL
      refine ⟨L, _, rfl, .inl ⟨.inl (.inl eL), fun p hp => ?_⟩⟩
      exact q _ p (sm.trans (same_new hp)) (sm.free hp) upd_same
/-! ### next_carry by carry_behind -/
def spNc : Sp := fun vs H Q _ => ∃ (R C B : Addr) (m o : Int) (ds : List Deed) (cs bs : List Int), vs = [.ref R, .ref C, .ref B] ∧ RowAt H R m ds o ∧ DsOk m ds ∧ ds.length ≤ 100 ∧ H C = some (.tup (cs.map V.int)) ∧ cs.length = ds.length ∧ H B = some (.tup (bs.map V.int)) ∧ (bs.length : Int) = m ∧ bs.length ≤ 100 ∧
  ∀ H' p, Same H H' → H p = none → H' p = some (.tup ((nxt ds cs (bts ds cs bs)).map V.int)) → Q (.ref p) H'
theorem ok_nc {f fB fC : Addr} {fd fdB fdC : FuncData} {k : Nat} (F : Fun K "next_carry" "next_carry" s_next_carry f fd) (GB : FnOk P w K mg base CX0 (k + 2) fB fdB ["row", "carry", "bits"] spBo) (kB : PySem.W.keepIn K (.ref fB) = true) (bB : Binds K fdB ["row", "carry", "bits"] []) (gB : mg "bits_of" = some (.ref fB))
    (GC : FnOk P w K mg base CX0 (k + 3) fC fdC ["row", "carry", "told"] spCb) (kC : PySem.W.keepIn K (.ref fC) = true) (bC : Binds K fdC ["row", "carry", "told"] []) (gC : mg "carry_behind" = some (.ref fC)) : FnOk P w K mg base CX0 (k + 4) f fd ["row", "carry", "bits"] spNc := by
  refine F.ok sc_next_carry (fun vs H Q E h => ?_) (fun cdv A outer s H vs Q E hr h => ?_)
  · obtain ⟨R, C, B, m, o, ds, cs, bs, rfl, _⟩ := h
    rfl
  · obtain ⟨R, C, B, m, o, ds, cs, bs, rfl, hrow, hok, hds, eC, hcl, eB, hm, hbl, q⟩ := h
    have r2 := hr.mono (show k + 2 ≤ k + 3 by omega)
    refine ⟨_, pss_one (ps_ret (pe_call GC hr (by rfl) gC kC bC .nil pass0 (pa_cons (pv 0) (pa_cons (pv 1) (pa_cons (pe_call GB r2 (by rfl) gB kB bB .nil pass0 (pa_cons (pv 0) (pa_cons (pv 1) (pa_cons (pv 2) pa_nil)))) pa_nil))))), ?_⟩
    have tl : (bts ds cs bs).length = bs.length + ds.length := bts_len hcl.symm
    refine ⟨.ref R, rfl, .ref C, rfl, .ref R, rfl, .ref C, rfl, .ref B, rfl, R, C, B, m, o, ds, cs, bs, rfl, hrow, hok, hds, eC, hcl, eB, hm, hbl, fun H1 T s1 hT eT => ?_⟩
    refine ⟨R, C, T, m, o, ds, cs, _, rfl, (Same.tups s1).row hrow, hok, hds, s1 _ _ eC, hcl, eT, by omega, fun H2 p s2 np ep => ?_⟩
    exact q H2 p (s1.trans s2) (s1.free np) ep
/-! ### the law's own bits and carries -/
def spLb (K : PySem.W.Frag) : Sp := fun vs H Q _ => ∃ (r L : Addr) (d : Deed) (told : List Int) (c : Int), vs = [.ref r, .int c, .ref L] ∧ H r = some (.tup (dV d)) ∧ SqL K H L (told.map V.int) ∧ DeedOk told.length d ∧ (∀ x ∈ told, Bit x) ∧ Bit c ∧ ∀ H', Same H H' → Q (.int (dbitAt d c told)) H'
theorem ok_lb {f : Addr} {fd : FuncData} {k : Nat} (F : Fun K "_law_bit" "_law_bit" s_law_bit f fd) (mi : mg "int" = none) (mx : mg "max" = none) : FnOk P w K mg base CX0 (k + 1) f fd ["deed", "carry", "bits"] (spLb K) := by
  refine F.ok sc_law_bit (fun vs H Q E h => ?_) (fun cdv A outer s H vs Q E hr h => ?_)
  · obtain ⟨r, L, d, told, c, rfl, _⟩ := h
    rfl
  · obtain ⟨r, L, d, told, c, rfl, er, eL, ok, tb, hc, q⟩ := h
    refine ⟨_, pss_cons (ps_set (i := 3) sc_law_bit.nd rfl (.inl rfl) (pe_ix ix_tup (pv 0) pe_int (fun _ _ => rfl)))
      (pss_cons (ps_if (pt_cmpR op_in_seq (pv 3) (pe_tup (pa_cons pe_str (pa_cons pe_str (pa_cons pe_str (pa_cons pe_str pa_nil))))) (by rfl)) (pss_one (ps_ret (pe_dget (hu_of hr) (pe_disp (pps_cons pe_str pe_int (pps_cons pe_str (pv 1) (pps_cons pe_str pe_int (pps_cons pe_str (pv 1) pps_nil)))) (by rfl) (by rfl) (fun z => by cases z) (by decide)) (pv 3) (fun _ _ => rfl)))) pss_nil)
      (pss_cons (ps_set (i := 4) sc_law_bit.nd rfl (.inl rfl) (pe_ix ix_list (pv 2) (pe_ix ix_tup (pv 0) pe_int (fun _ _ => rfl)) (fun _ _ => rfl)))
      (pss_cons (ps_if (pt_cmpR op_in_seq (pv 3) (pe_tup (pa_cons pe_str (pa_cons pe_str pa_nil))) (by rfl)) (pss_one (ps_ret (pe_ifExp (pt_cmpR op_eq (pv 3) pe_str (nomark _)) (pe_callTy call_int1 (by rfl) mi (by decide +kernel) (pa_cons (pe_cmpR op_eq (pv 4) pe_int (nomark _)) pa_nil)) (pe_callTy call_int1 (by rfl) mi (by decide +kernel) (pa_cons (pe_cmpR op_ne (pe_cmpR op_eq (pv 4) pe_int (nomark _)) (pe_cmpR op_eq (pv 1) pe_int (nomark _)) (nomark _)) pa_nil))))) pss_nil)
      (pss_cons (ps_set (i := 5) sc_law_bit.nd rfl (.inl rfl) (pe_ix ix_list (pv 2) (pe_ix ix_tup (pv 0) pe_int (fun _ _ => rfl)) (fun _ _ => rfl)))
      (pss_cons (ps_if (pt_cmpR op_in_seq (pv 3) (pe_tup (pa_cons pe_str (pa_cons pe_str (pa_cons pe_str pa_nil)))) (by rfl)) (pss_one (ps_ret (pe_dget (hu_of hr) (pe_disp (pps_cons pe_str (pe_op op_mul (pv 4) (pv 5)) (pps_cons pe_str (pe_callB (call_max2 rfl) (by rfl) mx (by decide +kernel) (pa_cons (pv 4) (pa_cons (pv 5) pa_nil))) (pps_cons pe_str (pe_callTy call_int1 (by rfl) mi (by decide +kernel) (pa_cons (pe_cmpR op_ne (pv 4) (pv 5) (nomark _)) pa_nil)) pps_nil))) (by rfl) (by rfl) (fun z => by cases z) (by decide)) (pv 3) (fun _ _ => rfl)))) pss_nil)
      (pss_one (ps_ret (pe_op op_mod (pe_op op_add (pe_op op_add (pv 4) (pv 5)) (pv 1)) pe_int)))))))), ?_⟩
    refine ⟨.ref r, rfl, r, _, 0, .str d.1, rfl, rfl, SqT.of er, dv0 d, ?_⟩
    have bA := argAt_bit tb d 0
    have bB := argAt_bit tb d 1
    unfold dbitAt at q
    refine ⟨.str d.1, rfl, by show 4 ≤ sizeLine; decide, fun T hT => ?_⟩
    have sT := same_new (o := .tup [.str "none", .str "one", .str "all", .str "twice"]) hT
    refine ⟨T, _, rfl, .inr (SqT.of upd_same), rfl, rfl, _, rfl, ite2 (fun e => ?_) (fun e => ?_)⟩
    · have hm : d.1 ∈ (["none", "one", "all", "twice"] : List Str) := of_decide_eq_true ((inS d.1 ["none", "one", "all", "twice"]).symm.trans e)
      intro p hp
      refine ⟨.int c, rfl, .int c, rfl, upd_same, [(Sum.inr "none", .int 0), (Sum.inr "one", .int c), (Sum.inr "all", .int 1), (Sum.inr "twice", .int c)], rfl, (by show 4 ≤ 15; decide), .str d.1, rfl, p, ?_⟩
      rw [upd_upd]
      have q1 := q _ (sT.trans (same_new (o := .dK (mergeK [] [(Sum.inr "none", .int 0), (Sum.inr "one", .int c), (Sum.inr "all", .int 1), (Sum.inr "twice", .int c)])) hp))
      simp only [List.mem_cons, List.not_mem_nil, or_false] at hm
      rcases hm with hm | hm | hm | hm <;> rw [hm] at q1 ⊢
      · exact ⟨.int 0, rfl, dget_at (k := Sum.inr "none") upd_same rfl, q1⟩
      · exact ⟨.int c, rfl, dget_at (k := Sum.inr "one") upd_same rfl, q1⟩
      · exact ⟨.int 1, rfl, dget_at (k := Sum.inr "all") upd_same rfl, q1⟩
      · exact ⟨.int c, rfl, dget_at (k := Sum.inr "twice") upd_same rfl, q1⟩
    have hn : ¬ d.1 ∈ (["none", "one", "all", "twice"] : List Str) := fun z => e ((inS d.1 ["none", "one", "all", "twice"]).trans (decide_eq_true z))
    simp only [List.mem_cons, List.not_mem_nil, or_false, not_or] at hn
    obtain ⟨n1, n2, n3, n4⟩ := hn
    obtain ⟨i, hi, ai, ei⟩ := arg1 ok n1 n2 n3
    have er2 := sT _ _ er
    have eL2 := sT.seq eL
    refine ⟨.ref L, rfl, .ref r, rfl, r, _, 1, .int i, rfl, rfl, SqT.of er2, dvN (k := 0) hi, L, _, i, .int (argAt d told 0), rfl, rfl, eL2, ei, ?_⟩
    refine ⟨.str d.1, rfl, by show 2 ≤ sizeLine; decide, fun U hU => ?_⟩
    have sU := sT.trans (same_new (o := .tup [.str "not", .str "neg"]) hU)
    refine ⟨U, _, rfl, .inr (SqT.of upd_same), rfl, rfl, _, rfl, ite2 (fun e => ?_) (fun e => ?_)⟩
    · have hm : d.1 ∈ (["not", "neg"] : List Str) := of_decide_eq_true ((inS d.1 ["not", "neg"]).symm.trans e)
      have q1 := q _ sU
      generalize argAt d told 0 = a at q1 bA
      generalize argAt d told 1 = b at q1 bB
      simp only [List.mem_cons, List.not_mem_nil, or_false] at hm
      rcases hm with hm | hm <;> rw [hm] at q1 ⊢
      · refine ⟨.str "not", rfl, rfl, _, rfl, .int a, rfl, rfl, .inr ⟨_, rfl, ?_⟩⟩
        rcases bA with rfl | rfl
        · exact q1
        · exact q1
      · refine ⟨.str "neg", rfl, rfl, _, rfl, .int a, rfl, rfl, .int c, rfl, rfl, rfl, .inr ⟨_, rfl, ?_⟩⟩
        rcases bA with rfl | rfl <;> rcases hc with rfl | rfl <;> exact q1
    have hn2 : ¬ d.1 ∈ (["not", "neg"] : List Str) := fun z => e ((inS d.1 ["not", "neg"]).trans (decide_eq_true z))
    simp only [List.mem_cons, List.not_mem_nil, or_false, not_or] at hn2
    obtain ⟨n5, n6⟩ := hn2
    obtain ⟨j, hj, aj, ej⟩ := arg2 ok n1 n2 n3 n5 n6 n4
    have er3 := sU _ _ er
    have eL3 := sU.seq eL
    refine ⟨.ref L, rfl, .ref r, rfl, r, _, 2, .int j, rfl, rfl, SqT.of er3, dvN (k := 1) hj, L, _, j, .int (argAt d told 1), rfl, rfl, eL3, ej, ?_⟩
    refine ⟨.str d.1, rfl, by show 3 ≤ sizeLine; decide, fun W hW => ?_⟩
    have sW := sU.trans (same_new (o := .tup [.str "and", .str "or", .str "xor"]) hW)
    have qa := fun H' s' => q H' s'
    generalize argAt d told 0 = a at qa bA
    generalize argAt d told 1 = b at qa bB
    refine ⟨W, _, rfl, .inr (SqT.of upd_same), rfl, rfl, _, rfl, ite2 (fun e => ?_) (fun e => ?_)⟩
    · have hm : d.1 ∈ (["and", "or", "xor"] : List Str) := of_decide_eq_true ((inS d.1 ["and", "or", "xor"]).symm.trans e)
      intro p hp
      have hab : CMul a b := .inl (by rcases bA with rfl | rfl <;> exact ⟨by decide, by decide⟩)
      refine ⟨.int a, rfl, .int b, rfl, a, b, rfl, rfl, hab, .int a, rfl, .int b, rfl, a, b, rfl, .int a, rfl, .int b, rfl, rfl, .inr ⟨_, rfl, upd_same, [(Sum.inr "and", .int (a * b)), (Sum.inr "or", .int (if b > a then b else a)), (Sum.inr "xor", _)], rfl, (by show 3 ≤ 15; decide), .str d.1, rfl, p, ?_⟩⟩
      rw [upd_upd]
      have q1 := fun o => qa _ (sW.trans (same_new (o := o) hp))
      simp only [List.mem_cons, List.not_mem_nil, or_false] at hm
      rcases hm with hm | hm | hm <;> rw [hm] at q1 ⊢
      · refine ⟨.int (a * b), rfl, dget_at (k := Sum.inr "and") upd_same rfl, ?_⟩
        rcases bA with rfl | rfl <;> rcases bB with rfl | rfl <;> exact q1 _
      · refine ⟨.int (if b > a then b else a), rfl, dget_at (k := Sum.inr "or") upd_same rfl, ?_⟩
        rcases bA with rfl | rfl <;> rcases bB with rfl | rfl <;> exact q1 _
      · refine ⟨_, rfl, dget_at (k := Sum.inr "xor") upd_same rfl, ?_⟩
        rcases bA with rfl | rfl <;> rcases bB with rfl | rfl <;> exact q1 _
    · have hn3 : ¬ d.1 ∈ (["and", "or", "xor"] : List Str) := fun z => e ((inS d.1 ["and", "or", "xor"]).trans (decide_eq_true z))
      simp only [List.mem_cons, List.not_mem_nil, or_false, not_or] at hn3
      obtain ⟨n7, n8, n9⟩ := hn3
      refine ⟨.int a, rfl, .int b, rfl, a, b, rfl, rfl, .int c, rfl, _, c, rfl, rfl, _, 2, rfl, rfl, (by show (0 : Int) < 2; decide), ?_⟩
      have q1 := qa _ sW
      unfold dbit at q1
      rw [if_neg n1, if_neg n3, if_neg n2, if_neg n4, if_neg n5, if_neg n6, if_neg n7, if_neg n8, if_neg n9] at q1
      rcases bA with rfl | rfl <;> rcases bB with rfl | rfl <;> rcases hc with rfl | rfl <;> exact q1
def spLc (K : PySem.W.Frag) : Sp := fun vs H Q _ => ∃ (r L : Addr) (d : Deed) (told : List Int) (c : Int), vs = [.ref r, .int c, .ref L] ∧ H r = some (.tup (dV d)) ∧ SqL K H L (told.map V.int) ∧ DeedOk told.length d ∧ (∀ x ∈ told, Bit x) ∧ Bit c ∧ Q (.int (dcarAt d c told)) H
theorem ok_lc {f : Addr} {fd : FuncData} {k : Nat} (F : Fun K "_law_carry" "_law_carry" s_law_carry f fd) (mi : mg "int" = none) : FnOk P w K mg base CX0 (k + 1) f fd ["deed", "carry", "bits"] (spLc K) := by
  refine F.ok sc_law_carry (fun vs H Q E h => ?_) (fun cdv A outer s H vs Q E hr h => ?_)
  · obtain ⟨r, L, d, told, c, rfl, _⟩ := h
    rfl
  · obtain ⟨r, L, d, told, c, rfl, er, eL, ok, tb, hc, q⟩ := h
    refine ⟨_, pss_cons (ps_set (i := 3) sc_law_carry.nd rfl (.inl rfl) (pe_ix ix_tup (pv 0) pe_int (fun _ _ => rfl)))
      (pss_cons (ps_if (pt_cmpR op_eq (pv 3) pe_str (nomark _)) (pss_one (ps_ret (pe_callTy call_int1 (by rfl) mi (by decide +kernel) (pa_cons (pe_and (pe_cmpR op_eq (pe_ix ix_list (pv 2) (pe_ix ix_tup (pv 0) pe_int (fun _ _ => rfl)) (fun _ _ => rfl)) pe_int (nomark _)) (pe_one (pe_cmpR op_eq (pv 1) pe_int (nomark _)))) pa_nil)))) pss_nil)
      (pss_cons (ps_if (pt_cmpR op_eq (pv 3) pe_str (nomark _)) (pss_one (ps_ret (pe_ix ix_list (pv 2) (pe_ix ix_tup (pv 0) pe_int (fun _ _ => rfl)) (fun _ _ => rfl)))) pss_nil)
      (pss_cons (ps_if (pt_cmpR op_eq (pv 3) pe_str (nomark _)) (pss_one (ps_ret (pe_op op_fdiv (pe_op op_add (pe_op op_add (pe_ix ix_list (pv 2) (pe_ix ix_tup (pv 0) pe_int (fun _ _ => rfl)) (fun _ _ => rfl)) (pe_ix ix_list (pv 2) (pe_ix ix_tup (pv 0) pe_int (fun _ _ => rfl)) (fun _ _ => rfl))) (pv 1)) pe_int))) pss_nil)
      (pss_cons (ps_if (pt_cmpR op_eq (pv 3) pe_str (nomark _)) (pss_one (ps_ret (pe_op op_fdiv (pe_op op_add (pe_op op_add (pe_op op_sub pe_int (pe_ix ix_list (pv 2) (pe_ix ix_tup (pv 0) pe_int (fun _ _ => rfl)) (fun _ _ => rfl))) (pe_ix ix_list (pv 2) (pe_ix ix_tup (pv 0) pe_int (fun _ _ => rfl)) (fun _ _ => rfl))) (pv 1)) pe_int))) pss_nil)
      (pss_one (ps_ret pe_int)))))), ?_⟩
    unfold dcarAt dcar at q
    have bA := argAt_bit tb d 0
    refine ⟨.ref r, rfl, r, _, 0, .str d.1, rfl, rfl, SqT.of er, dv0 d, ?_⟩
    refine ⟨.str d.1, rfl, rfl, _, rfl, ite2 (fun e => ?_) (fun n1 => ?_)⟩
    · rw [if_pos (strEq e)] at q
      have e2 := strEq e
      obtain ⟨i, hi, ai, ei⟩ := arg1 ok (by rw [e2]; decide +kernel) (by rw [e2]; decide +kernel) (by rw [e2]; decide +kernel)
      refine ⟨.ref L, rfl, .ref r, rfl, r, _, 1, .int i, rfl, rfl, SqT.of er, dvN (k := 0) hi, L, _, i, .int (argAt d told 0), rfl, rfl, eL, ei, rfl, _, rfl, ?_⟩
      generalize argAt d told 0 = a at q bA
      rcases bA with rfl | rfl
      · refine ⟨.int c, rfl, rfl, .inr ⟨_, rfl, ?_⟩⟩
        rcases hc with rfl | rfl
        · exact q
        · exact q
      · refine .inr ⟨_, rfl, ?_⟩
        rcases hc with rfl | rfl
        · exact q
        · exact q
    rw [if_neg (strNe n1)] at q
    refine ⟨.str d.1, rfl, rfl, _, rfl, ite2 (fun e => ?_) (fun n2 => ?_)⟩
    · rw [if_pos (strEq e)] at q
      have e2 := strEq e
      obtain ⟨i, hi, ai, ei⟩ := arg1 ok (by rw [e2]; decide +kernel) (by rw [e2]; decide +kernel) (by rw [e2]; decide +kernel)
      exact ⟨.ref L, rfl, .ref r, rfl, r, _, 1, .int i, rfl, rfl, SqT.of er, dvN (k := 0) hi, L, _, i, _, rfl, rfl, eL, ei, q⟩
    rw [if_neg (strNe n2)] at q
    refine ⟨.str d.1, rfl, rfl, _, rfl, ite2 (fun e => ?_) (fun n3 => ?_)⟩
    · rw [if_pos (strEq e)] at q
      have e2 := strEq e
      obtain ⟨i, hi, ai, ei⟩ := arg1 ok (by rw [e2]; decide +kernel) (by rw [e2]; decide +kernel) (by rw [e2]; decide +kernel)
      obtain ⟨j, hj, aj, ej⟩ := arg2 ok (by rw [e2]; decide +kernel) (by rw [e2]; decide +kernel) (by rw [e2]; decide +kernel) (by rw [e2]; decide +kernel) (by rw [e2]; decide +kernel) (by rw [e2]; decide +kernel)
      exact ⟨.ref L, rfl, .ref r, rfl, r, _, 1, .int i, rfl, rfl, SqT.of er, dvN (k := 0) hi, L, _, i, _, rfl, rfl, eL, ei, .ref L, rfl, .ref r, rfl, r, _, 2, .int j, rfl, rfl, SqT.of er, dvN (k := 1) hj, L, _, j, _, rfl, rfl, eL, ej, _, _, rfl, rfl, .int c, rfl, _, _, rfl, rfl, _, 2, rfl, rfl, ⟨by decide, by decide⟩, q⟩
    rw [if_neg (strNe n3)] at q
    refine ⟨.str d.1, rfl, rfl, _, rfl, ite2 (fun e => ?_) (fun n4 => ?_)⟩
    · rw [if_pos (strEq e)] at q
      have e2 := strEq e
      obtain ⟨i, hi, ai, ei⟩ := arg1 ok (by rw [e2]; decide +kernel) (by rw [e2]; decide +kernel) (by rw [e2]; decide +kernel)
      obtain ⟨j, hj, aj, ej⟩ := arg2 ok (by rw [e2]; decide +kernel) (by rw [e2]; decide +kernel) (by rw [e2]; decide +kernel) (by rw [e2]; decide +kernel) (by rw [e2]; decide +kernel) (by rw [e2]; decide +kernel)
      exact ⟨.ref L, rfl, .ref r, rfl, r, _, 1, .int i, rfl, rfl, SqT.of er, dvN (k := 0) hi, L, _, i, _, rfl, rfl, eL, ei, 1, _, rfl, rfl, .ref L, rfl, .ref r, rfl, r, _, 2, .int j, rfl, rfl, SqT.of er, dvN (k := 1) hj, L, _, j, _, rfl, rfl, eL, ej, _, _, rfl, rfl, .int c, rfl, _, _, rfl, rfl, _, 2, rfl, rfl, ⟨by decide, by decide⟩, q⟩
    rw [if_neg (strNe n4)] at q
    exact q
/-! ### the law's step -/
def spLs : Sp := fun vs H Q _ => ∃ (R C B : Addr) (m o : Int) (ds : List Deed) (cs bs : List Int), vs = [.ref R, .ref C, .ref B] ∧ RowAt H R m ds o ∧ DsOk m ds ∧ ds.length ≤ 100 ∧ H C = some (.tup (cs.map V.int)) ∧ cs.length = ds.length ∧ H B = some (.tup (bs.map V.int)) ∧ (bs.length : Int) = m ∧ bs.length ≤ 100 ∧
  (∀ x ∈ cs, Bit x) ∧ (∀ x ∈ bs, Bit x) ∧ ∀ H' p A2 B2, Same H H' → H' p = some (.tup [.ref A2, .ref B2]) → H' A2 = some (.tup ((bts ds cs bs).map V.int)) → H' B2 = some (.tup ((nxt ds cs (bts ds cs bs)).map V.int)) → Q (.ref p) H'
theorem ok_ls {f fB fC : Addr} {fd fdB fdC : FuncData} {k : Nat} (F : Fun K "_law_step" "_law_step" s_law_step f fd) (GB : FnOk P w K mg base CX0 (k + 1) fB fdB ["deed", "carry", "bits"] (spLb K)) (kB : PySem.W.keepIn K (.ref fB) = true) (bB : Binds K fdB ["deed", "carry", "bits"] []) (gB : mg "_law_bit" = some (.ref fB))
    (GC : FnOk P w K mg base CX0 (k + 1) fC fdC ["deed", "carry", "bits"] (spLc K)) (kC : PySem.W.keepIn K (.ref fC) = true) (bC : Binds K fdC ["deed", "carry", "bits"] []) (gC : mg "_law_carry" = some (.ref fC)) (ml : mg "list" = none) (mt : mg "tuple" = none) (mz : mg "zip" = none) : FnOk P w K mg base CX0 (k + 2) f fd ["row", "carry", "bits"] spLs := by
  refine F.ok sc_law_step (fun vs H Q E h => ?_) (fun cdv A outer s H vs Q E hr h => ?_)
  · obtain ⟨R, C, B, m, o, ds, cs, bs, rfl, _⟩ := h
    rfl
  · obtain ⟨R, C, B, m, o, ds, cs, bs, rfl, hrow, hok, hds, eC, hcl, eB, hm, hbl, cb, bb, q⟩ := h
    obtain ⟨D, rs, eR, eD, hd⟩ := id hrow
    refine ⟨_, pss_cons (ps_set (i := 3) sc_law_step.nd rfl (.inr rfl) (pe_callTy call_list_of (by rfl) ml (by decide +kernel) (pa_cons (pv 2) pa_nil)))
      (pss_cons (ps_for PassesOwn.never rfl (RZ.pi_zipA (by rfl) mz (pa_cons (pe_ix ix_tup (pv 0) pe_int (fun _ _ => rfl)) (pa_cons (pv 1) pa_nil))) (pg_tup rfl (pgs_cons (pg_name (i := 4) sc_law_step.nd rfl (.inl rfl)) (pgs_cons (pg_name (i := 5) sc_law_step.nd rfl (.inl rfl)) pgs_nil)))
        (pss_one (ps_expr (pe_bm PySem.F.plainAttrs_list PySem.F.slot_list_append PySem.F.type_list_append mt_append (pv 3) (pa_cons (pe_call GB hr (by rfl) gB kB bB .nil pass0 (pa_cons (pv 4) (pa_cons (pv 5) (pa_cons (pv 3) pa_nil)))) pa_nil)))))
      (pss_one (ps_ret (pe_tup (pa_cons (pe_callTy call_tuple_of (by rfl) mt (by decide +kernel) (pa_cons (pv 3) pa_nil)) (pa_cons (pe_callTy call_tuple_of (by rfl) mt (by decide +kernel) (pa_cons
        (pe_lc (own := [("deed", 4), ("one", 5)]) (g := gTup K 2 (gCons (gName 4) (gCons (gName 5) gNil))) (by rfl) sc_law_step.nd (RZ.pi_zipA (by rfl) mz (pa_cons (pe_ix ix_tup (pv 0) pe_int (fun _ _ => rfl)) (pa_cons (pv 1) pa_nil))) (blkOk_by (own := [("deed", 4), ("one", 5)]) (N := N_law_step) (sc := defScope s_law_step) (by decide +kernel))
          (fun _ _ _ _ _ => pg_tup rfl (pgs_cons (pg_name (i := 4) sc_law_step.nd rfl (.inl rfl)) (pgs_cons (pg_name (i := 5) sc_law_step.nd rfl (.inl rfl)) pgs_nil))) (fun _ _ _ _ _ => pts_nil)
          (fun _ _ _ _ _ => pe_call GC hr (by rfl) gC kC bC .nil pass0 (pa_cons (pv 4) (pa_cons (pv 5) (pa_cons (pv 3) pa_nil))))) pa_nil)) pa_nil)))))), ?_⟩
    refine ⟨.ref B, rfl, B, _, rfl, .inr (SqT.of eB), fun L hL => ?_⟩
    have sL := same_new (o := .lst (bs.map V.int)) hL
    have lrs : (rs.map V.ref).length = ds.length := by rw [List.length_map, awLen hd]
    have lcs : (cs.map V.int).length = ds.length := by rw [List.length_map, hcl]
    have tl : (bts ds cs bs).length = bs.length + ds.length := bts_len hcl.symm
    have allbits : ∀ x ∈ bts ds cs bs, Bit x := bts_bits bb cb
    refine ⟨.ref R, rfl, R, _, 1, .ref D, rfl, rfl, SqT.of (sL _ _ eR), rfl, .ref C, rfl, D, C, _, _, rfl, .inr ⟨SqT.of (sL _ _ eD), SqT.of (sL _ _ eC), RZ.for_zipT (K := K) (xs := rs.map V.ref) (ys := cs.map V.int) (lrs.trans lcs.symm) (fun i σ H3 => ∃ y4 y5, σ = [some (.ref R), some (.ref C), some (.ref B), some (.ref L), y4, y5] ∧ H3 L = some (.lst ((bts (ds.take i) (cs.take i) bs).map V.int)) ∧ Same H H3) ⟨none, none, rfl, by rw [upd_same]; cases ds <;> rfl, sL⟩ (fun i σ H3 hp => ?_) (fun i x y T σ H3 hx hy hp hT => ?_) (fun σ H3 hp => ?_)⟩⟩
    · obtain ⟨_, _, _, _, sm⟩ := hp
      exact ⟨SqT.of (sm _ _ eD), SqT.of (sm _ _ eC)⟩
    · obtain ⟨y4, y5, rfl, e3, sm⟩ := hp
      have hi : i < rs.length := by
        have := (List.getElem?_eq_some_iff.mp hx).1
        rwa [List.length_map] at this
      have hx' : x = .ref rs[i] := by
        rw [List.getElem?_map, List.getElem?_eq_getElem hi] at hx
        exact (Option.some.inj hx).symm
      subst hx'
      obtain ⟨d, hd1, hd2⟩ := awGet hd (List.getElem?_eq_getElem hi)
      obtain ⟨c, hc, rfl⟩ : ∃ c, cs[i]? = some c ∧ y = .int c := by
        rw [List.getElem?_map] at hy
        cases e : cs[i]? with
        | none => rw [e] at hy; cases hy
        | some c => rw [e] at hy; exact ⟨c, rfl, (Option.some.inj hy).symm⟩
      have h2 : i < ds.length := by
        rw [← awLen hd]
        exact hi
      have hlen : (bts (ds.take i) (cs.take i) bs).length = bs.length + i := by
        rw [bts_len (by rw [List.length_take, List.length_take, hcl]), List.length_take, Nat.min_eq_left (Nat.le_of_lt h2)]
      have okd : DeedOk (bts (ds.take i) (cs.take i) bs).length d := by
        rw [hlen]
        have := hok.each i d hd1
        rw [← hm] at this
        exact this
      have sT := same_new (o := .tup [.ref rs[i], .int c]) hT
      have e4 := sT _ _ e3
      refine ⟨T, [.ref rs[i], .int c], rfl, .inl (.inl upd_same), rfl, .ref rs[i], [.int c], rfl, .int c, [], rfl, rfl, ?_⟩
      refine ⟨.ref L, rfl, .inl ⟨rfl, _, .inl (.inl e4)⟩, .ref rs[i], rfl, .int c, rfl, .ref L, rfl, rs[i], L, d, _, c, rfl, sT _ _ (sm _ _ hd2), .inl (.inl e4), okd, bts_bits bb (fun x hx => cb x (List.mem_of_mem_take hx)), cb c (List.mem_of_getElem? hc), fun H5 s5 => ?_⟩
      refine ⟨L, _, _, rfl, rfl, s5 _ _ e4, ?_, some (.ref rs[i]), some (.int c), rfl, ?_, ?_⟩
      · rw [List.length_map, hlen]
        exact small1000 (by omega)
      · rw [upd_same, bts_next hd1 hc, List.map_append]
        rfl
      · intro b u e
        rw [upd_ne (ne_of_none e hL)]
        exact s5 b u (sT b u (sm b u e))
    · obtain ⟨y4, y5, rfl, e3, sm⟩ := hp
      rw [lrs, List.take_length, ← hcl, List.take_length] at e3
      refine ⟨.ref L, rfl, L, _, rfl, .inl ⟨.inl (.inl e3), fun A2 hA2 => ?_⟩⟩
      have s2 := sm.trans (same_new (o := .tup ((bts ds cs bs).map V.int)) hA2)
      have eA2 : upd H3 A2 (.tup ((bts ds cs bs).map V.int)) A2 = some (.tup ((bts ds cs bs).map V.int)) := upd_same
      have eL2 : upd H3 A2 (.tup ((bts ds cs bs).map V.int)) L = some (.lst ((bts ds cs bs).map V.int)) := same_new hA2 _ _ e3
      generalize upd H3 A2 (.tup ((bts ds cs bs).map V.int)) = H4 at s2 eA2 eL2
      refine ⟨.ref R, rfl, R, _, 1, .ref D, rfl, rfl, SqT.of (s2 _ _ eR), rfl, .ref C, rfl, D, C, _, _, rfl, .inr ⟨SqT.of (s2 _ _ eD), SqT.of (s2 _ _ eC), fun M hM => ?_⟩⟩
      refine lc_it (walk_zipT (K := K) (a := D) (b := C) (xs := rs.map V.ref) (ys := cs.map V.int) (lrs.trans lcs.symm)) (fun i H5 => H5 M = some (.lst (((nxt ds cs (bts ds cs bs)).take i).map V.int)) ∧ Same H4 H5) ⟨upd_same, same_new hM⟩ (fun i H5 _ hp => ⟨SqT.of (hp.2 _ _ (s2 _ _ eD)), SqT.of (hp.2 _ _ (s2 _ _ eC))⟩) (fun i x H5 H6 hi hp hy => ?_) (fun H5 hp => ?_)
      · obtain ⟨eM, sm5⟩ := hp
        obtain ⟨U, x1, x2, rfl, hU, rfl, g1, g2⟩ := hy
        have hi2 : i < rs.length := by rwa [List.length_map] at hi
        have hx' : x1 = .ref rs[i] := by
          have g1' : (rs.map V.ref)[i]? = some x1 := g1
          rw [List.getElem?_map, List.getElem?_eq_getElem hi2] at g1'
          exact (Option.some.inj g1').symm
        subst hx'
        obtain ⟨d, hd1, hd2⟩ := awGet hd (List.getElem?_eq_getElem hi2)
        obtain ⟨c, hc, rfl⟩ : ∃ c, cs[i]? = some c ∧ x2 = .int c := by
          have g2' : (cs.map V.int)[i]? = some x2 := g2
          rw [List.getElem?_map] at g2'
          cases e : cs[i]? with
          | none => rw [e] at g2'; cases g2'
          | some c => rw [e] at g2'; exact ⟨c, rfl, (Option.some.inj g2').symm⟩
        have h2 : i < ds.length := by
          rw [← awLen hd]
          exact hi2
        have okd : DeedOk (bts ds cs bs).length d := okd_more (hok.each i d hd1) (by omega)
        have sU := same_new (o := .tup [.ref rs[i], .int c]) hU
        refine ⟨U, [.ref rs[i], .int c], rfl, .inl (.inl upd_same), rfl, .ref rs[i], [.int c], rfl, .int c, [], rfl, rfl, rfl, ?_⟩
        refine ⟨.ref rs[i], rfl, .int c, rfl, .ref L, rfl, rs[i], L, d, _, c, rfl, sU _ _ (sm5 _ _ (s2 _ _ hd2)), .inl (.inl (sU _ _ (sm5 _ _ eL2))), okd, allbits, cb c (List.mem_of_getElem? hc), _, sU _ _ eM, ?_, ?_, ?_⟩
        · rw [List.length_map, List.length_take, nxt_len hcl.symm]
          exact small1000 (by omega)
        · rw [upd_same, nxt_next hd1 hc, List.map_append]
          rfl
        · intro b u e
          rw [upd_ne (ne_of_none e hM)]
          exact sU b u (sm5 b u e)
      · obtain ⟨eM, sm5⟩ := hp
        rw [lrs, ← nxt_len (t := bts ds cs bs) hcl.symm, List.take_length] at eM
        refine ⟨M, _, rfl, .inl ⟨.inl (.inl eM), fun B2 hB2 => ?_⟩⟩
        refine ⟨by show 2 ≤ sizeLine; decide, fun p hp => ?_⟩
        have sB := sm5.trans (same_new (o := .tup ((nxt ds cs (bts ds cs bs)).map V.int)) hB2)
        have sp := same_new (o := .tup [.ref A2, .ref B2]) hp
        exact q _ p A2 B2 ((s2.trans sB).trans sp) upd_same (sp _ _ (sB _ _ eA2)) (sp _ _ upd_same)
/-! ### the law's first carry -/
theorem ok_lf {f : Addr} {fd : FuncData} {k : Nat} (F : Fun K "_law_first" "_law_first" s_law_first f fd) (mt : mg "tuple" = none) (mi : mg "int" = none) : FnOk P w K mg base CX0 (k + 1) f fd ["row"] spFc := by
  refine F.ok sc_law_first (fun vs H Q E h => ?_) (fun cdv A outer s H vs Q E hr h => ?_)
  · obtain ⟨R, m, o, ds, rfl, _⟩ := h
    rfl
  · obtain ⟨R, m, o, ds, rfl, hrow, hl, q⟩ := h
    obtain ⟨D, rs, eR, eD, hd⟩ := id hrow
    refine ⟨_, pss_one (ps_ret (pe_callTy call_tuple_of (by rfl) mt (by decide +kernel) (pa_cons
      (pe_lc (own := [("deed", 1)]) (g := gName 1) (by rfl) sc_law_first.nd (pi_tup (pe_ix ix_tup (pv 0) pe_int (fun _ _ => rfl))) (blkOk_by (own := [("deed", 1)]) (N := N_law_first) (sc := defScope s_law_first) (by decide +kernel))
        (fun _ _ _ _ _ => pg_name (i := 1) sc_law_first.nd rfl (Or.inl rfl)) (fun _ _ _ _ _ => pts_nil)
        (fun _ _ _ _ _ => pe_callTy call_int1 (by rfl) mi (by decide +kernel) (pa_cons (pe_cmpR (r := rIn K false) op_in_seq (pe_ix (r := rIxT K) ix_tup (pv 1) pe_int (fun _ _ => rfl)) (pe_tup (pa_cons pe_str (pa_cons pe_str pa_nil))) (by rfl)) pa_nil))) pa_nil))), ?_⟩
    refine ⟨.ref R, rfl, R, _, 1, .ref D, rfl, rfl, SqT.of eR, rfl, D, rfl, ⟨_, SqT.of eD⟩, fun L hL => ?_⟩
    refine lc_tup (K := K) (a := D) (xs := rs.map V.ref) (fun i H4 => H4 L = some (.lst (((ds.take i).map fcD).map V.int)) ∧ Same H H4) ⟨upd_same, same_new hL⟩ (fun i H4 _ hp => SqT.of (hp.2 _ _ eD)) (fun i x H4 hx hp => ?_) (fun H4 hp => ?_)
    · obtain ⟨eL, sm⟩ := hp
      have hi : i < rs.length := by
        have := (List.getElem?_eq_some_iff.mp hx).1
        rwa [List.length_map] at this
      have hx' : x = .ref rs[i] := by
        rw [List.getElem?_map, List.getElem?_eq_getElem hi] at hx
        exact (Option.some.inj hx).symm
      subst hx'
      obtain ⟨d, hd1, hd2⟩ := awGet hd (List.getElem?_eq_getElem hi)
      refine ⟨rfl, .ref rs[i], rfl, rs[i], _, 0, .str d.1, rfl, rfl, SqT.of (sm _ _ hd2), dv0 d, by show 2 ≤ sizeLine; decide, fun T hT => ?_⟩
      have sT := same_new (o := .tup [.str "neg", .str "one"]) hT
      have eL2 := sT _ _ eL
      have old : ∀ o, Same H (upd (upd H4 T (.tup [.str "neg", .str "one"])) L o) := fun o b u e => by
        rw [upd_ne (ne_of_none e hL)]
        exact sT b u (sm b u e)
      have small : (((ds.take i).map fcD).map V.int).length < sizeLine := by
        rw [List.length_map, List.length_map, List.length_take]
        exact small1000 (by omega)
      have hin : inV (.str d.1) [.str "neg", .str "one"] = decide (d.1 ∈ (["neg", "one"] : List Str)) := inS d.1 ["neg", "one"]
      refine ⟨T, _, rfl, .inr (SqT.of upd_same), rfl, rfl, .inr ⟨_, rfl, _, eL2, small, ?_, old _⟩⟩
      rw [upd_same, List.take_add_one, hd1]
      have e1 : fcD d = if inV (.str d.1) [.str "neg", .str "one"] = true then 1 else 0 := by
        rw [hin]
        unfold fcD
        by_cases hm : d.1 ∈ (["neg", "one"] : List Str)
        · rw [if_pos hm, if_pos (decide_eq_true hm)]
        · rw [if_neg hm, if_neg (by simpa using hm)]
      simp only [Option.toList_some, List.map_append, List.map_cons, List.map_nil, e1]
      rfl
    · obtain ⟨eL, sm⟩ := hp
      rw [List.length_map, awLen hd, List.take_length] at eL
      refine ⟨L, _, rfl, .inl ⟨.inl (.inl eL), fun p hp => ?_⟩⟩
      exact q _ p (sm.trans (same_new hp)) (sm.free hp) upd_same
/-! ### all bits -/
/-- tuples of so many bits -/
def BitsAt (H : Hp) (n : Nat) (f : Addr) : Prop := ∃ bs : List Int, H f = some (.tup (bs.map V.int)) ∧ bs.length = n ∧ ∀ x ∈ bs, Bit x
theorem BitsAt.stay {H H' : Hp} {n : Nat} {f : Addr} (h : BitsAt H n f) (t : TupsStay H H') : BitsAt H' n f := by
  obtain ⟨bs, e, r⟩ := h
  exact ⟨bs, t _ _ e, r⟩
theorem refs_of {fs : List Addr} : ∀ ys : List V, (∀ y ∈ ys, ∃ g, g ∈ fs ∧ y = .ref g) → ∃ fs2 : List Addr, ys = fs2.map V.ref ∧ ∀ g ∈ fs2, g ∈ fs
  | [], _ => ⟨[], rfl, (fun _ z => nomatch z)⟩
  | y :: ys, all => by
    obtain ⟨g, hg, rfl⟩ := all y List.mem_cons_self
    obtain ⟨fs2, rfl, h2⟩ := refs_of ys fun z hz => all z (List.mem_cons_of_mem _ hz)
    refine ⟨g :: fs2, rfl, fun z hz => ?_⟩
    rcases List.mem_cons.mp hz with rfl | hz
    · exact hg
    · exact h2 z hz
def spAb : Sp := fun vs H Q _ => ∃ m : Nat, vs = [.int (m : Int)] ∧ 1 ≤ m ∧ m ≤ 3 ∧ ∀ H' p (fs : List Addr), Same H H' → H' p = some (.lst (fs.map V.ref)) → fs.length = 2 ^ m → (∀ f ∈ fs, BitsAt H' m f) → Q (.ref p) H'
theorem ok_ab {f : Addr} {fd : FuncData} {k : Nat} (F : Fun K "_law_bits" "_law_bits" s_law_bits f fd) (mr : mg "range" = none) (ms : mg "sorted" = none) : FnOk P w K mg base CX0 (k + 1) f fd ["many"] spAb := by
  refine F.ok sc_law_bits (fun vs H Q E h => ?_) (fun cdv A outer s H vs Q E hr h => ?_)
  · obtain ⟨m, rfl, _⟩ := h
    rfl
  · obtain ⟨m, rfl, m1, m3, q⟩ := h
    refine ⟨_, pss_cons (ps_set (i := 1) sc_law_bits.nd rfl (.inl rfl) (pe_lst (pa_cons (pe_tup pa_nil) pa_nil)))
      (pss_cons (ps_for PassesOwn.never rfl (pi_range1 (by rfl) mr (pa_cons (pv 0) pa_nil)) (pg_name (i := 2) sc_law_bits.nd rfl (.inl rfl))
        (pss_one (ps_set (i := 1) sc_law_bits.nd rfl (.inl rfl) (pe_op op_cat
          (pe_lc (own := [("some", 3)]) (g := gName 3) (by rfl) sc_law_bits.nd (pi_list (pv 1)) (blkOk_by (own := [("some", 3)]) (N := N_law_bits) (sc := defScope s_law_bits) (by decide +kernel)) (fun _ _ _ _ _ => pg_name (i := 3) sc_law_bits.nd rfl (Or.inl rfl)) (fun _ _ _ _ _ => pts_nil) (fun _ _ _ _ _ => pe_op op_catZ (pv 3) (pe_tup (pa_cons pe_int pa_nil))))
          (pe_lc (own := [("some", 3)]) (g := gName 3) (by rfl) sc_law_bits.nd (pi_list (pv 1)) (blkOk_by (own := [("some", 3)]) (N := N_law_bits) (sc := defScope s_law_bits) (by decide +kernel)) (fun _ _ _ _ _ => pg_name (i := 3) sc_law_bits.nd rfl (Or.inl rfl)) (fun _ _ _ _ _ => pts_nil) (fun _ _ _ _ _ => pe_op op_catZ (pv 3) (pe_tup (pa_cons pe_int pa_nil))))))))
      (pss_one (ps_ret (pe_callB (cr_sortT (d := m) (B := 2) m1) (by rfl) ms (by decide +kernel) (pa_cons (pv 1) pa_nil))))), ?_⟩
    refine ⟨by show 0 ≤ sizeLine; decide, fun T hT => ?_⟩
    refine ⟨by show 1 ≤ sizeLine; decide, fun L hL => ?_⟩
    have s1 := same_new (o := .tup []) hT
    have s2 := same_new (o := .lst [.ref T]) hL
    refine ⟨.int m, rfl, m, rfl, by omega, by omega, for_range (lo := 0) (n := m) (fun i σ H3 => ∃ y2 F1 fs, σ = [some (.int (m : Int)), some (.ref F1), y2, none] ∧ H3 F1 = some (.lst (fs.map V.ref)) ∧ fs.length = 2 ^ i ∧ (∀ f ∈ fs, BitsAt H3 i f) ∧ Same H H3) ⟨none, L, [T], rfl, upd_same, rfl, fun f hf => ?_, s1.trans s2⟩ (fun i σ H3 hi hp => ?_) (fun σ H3 hp => ?_)⟩
    · rw [List.mem_singleton.mp hf]
      exact ⟨[], s2 _ _ upd_same, rfl, (fun _ z => nomatch z)⟩
    · obtain ⟨y2, F1, fs, rfl, eF, hfl, hfb, sm⟩ := hp
      have fs8 : fs.length ≤ 8 := by
        rw [hfl]
        exact Nat.le_trans (Nat.pow_le_pow_right (by decide) (show i ≤ 3 by omega)) (by decide)
      -- one of the two lists
      have one : ∀ (b : Int) (H4 : Hp), Bit b → Same H3 H4 → ∀ j x H5, (∃ gs : List Addr, gs.length = j ∧ (∃ M, H5 M = some (.lst (gs.map V.ref))) ∧ (∀ g ∈ gs, BitsAt H5 (i + 1) g) ∧ Same H4 H5) → (fs.map V.ref)[j]? = some x → ∃ (f : Addr) (bs : List Int), x = .ref f ∧ H5 f = some (.tup (bs.map V.int)) ∧ bs.length = i ∧ ∀ y ∈ bs, Bit y := by
        rintro b H4 hb s4 j x H5 ⟨gs, _, _, _, s5⟩ hx
        rw [List.getElem?_map] at hx
        cases e : fs[j]? with
        | none => rw [e] at hx; cases hx
        | some f =>
          rw [e] at hx
          obtain ⟨bs, e1, e2, e3⟩ := hfb f (List.mem_of_getElem? e)
          exact ⟨f, bs, (Option.some.inj hx).symm, s5 _ _ (s4 _ _ e1), e2, e3⟩
      refine ⟨.ref F1, rfl, F1, rfl, ⟨_, .inl (.inl eF)⟩, fun M hM => ?_⟩
      refine lc_list (K := K) (a := F1) (xs := fs.map V.ref) (fun j H4 => ∃ gs : List Addr, gs.length = j ∧ H4 M = some (.lst (gs.map V.ref)) ∧ (∀ g ∈ gs, BitsAt H4 (i + 1) g) ∧ Same H3 H4) ⟨[], rfl, upd_same, (fun _ z => nomatch z), same_new hM⟩ (fun j H4 _ hp => ?_) (fun j x H4 hx hp => ?_) (fun H4 hp => ?_)
      · obtain ⟨_, _, _, _, s4⟩ := hp
        exact .inl (.inl (s4 _ _ eF))
      · obtain ⟨gs, hgl, eM, hgb, s4⟩ := hp
        obtain ⟨g0, bs, rfl, eg0, hbl, hbb⟩ := one 0 H3 bit0 (Same.refl H3) j x H4 ⟨gs, hgl, ⟨M, eM⟩, hgb, s4⟩ hx
        have hj : j < fs.length := by
          have := (List.getElem?_eq_some_iff.mp hx).1
          rwa [List.length_map] at this
        refine ⟨rfl, .ref g0, rfl, by show 1 ≤ sizeLine; decide, fun U hU => ?_⟩
        have sU := same_new (o := .tup [.int 0]) hU
        refine ⟨g0, U, _, _, rfl, rfl, sU _ _ eg0, upd_same, by rw [List.length_map]; exact Nat.le_of_lt (small1000 (by show bs.length + 1 ≤ 1000; omega)), fun p H5 s5 ep => ?_⟩
        have s45 := sU.trans s5
        have eM5 := s45 _ _ eM
        refine ⟨_, eM5, by rw [List.length_map]; exact small1000 (by omega), gs ++ [p], by rw [List.length_append, hgl]; rfl, ?_, ?_, ?_⟩
        · rw [upd_same, List.map_append]
          rfl
        · intro g hg
          have tp := tups_put (o := .lst (gs.map V.ref ++ [V.ref p])) eM5
          rcases List.mem_append.mp hg with hg | hg
          · exact (hgb g hg).stay ((Same.tups s45).trans tp)
          · rw [List.mem_singleton.mp hg]
            refine ⟨bs ++ [0], tp _ _ (by rw [ep, List.map_append]; rfl), by rw [List.length_append, hbl]; rfl, fun y hy => ?_⟩
            rcases List.mem_append.mp hy with hy | hy
            · exact hbb y hy
            · rw [List.mem_singleton.mp hy]
              exact bit0
        · intro b u e
          rw [upd_ne (ne_of_none e hM)]
          exact s45 b u (s4 b u e)
      · obtain ⟨gs, hgl, eM, hgb, s4⟩ := hp
        refine ⟨.ref F1, rfl, F1, rfl, ⟨_, .inl (.inl (s4 _ _ eF))⟩, fun M2 hM2 => ?_⟩
        refine lc_list (K := K) (a := F1) (xs := fs.map V.ref) (fun j H5 => ∃ hs : List Addr, hs.length = j ∧ H5 M2 = some (.lst (hs.map V.ref)) ∧ (∀ g ∈ hs, BitsAt H5 (i + 1) g) ∧ Same H4 H5) ⟨[], rfl, upd_same, (fun _ z => nomatch z), same_new hM2⟩ (fun j H5 _ hp => ?_) (fun j x H5 hx hp => ?_) (fun H5 hp => ?_)
        · obtain ⟨_, _, _, _, s5⟩ := hp
          exact .inl (.inl (s5 _ _ (s4 _ _ eF)))
        · obtain ⟨hs, hhl, eM2, hhb, s5⟩ := hp
          obtain ⟨g0, bs, rfl, eg0, hbl, hbb⟩ := one 1 H4 bit1 s4 j x H5 ⟨hs, hhl, ⟨M2, eM2⟩, hhb, s5⟩ hx
          have hj : j < fs.length := by
            have := (List.getElem?_eq_some_iff.mp hx).1
            rwa [List.length_map] at this
          refine ⟨rfl, .ref g0, rfl, by show 1 ≤ sizeLine; decide, fun U hU => ?_⟩
          have sU := same_new (o := .tup [.int 1]) hU
          refine ⟨g0, U, _, _, rfl, rfl, sU _ _ eg0, upd_same, by rw [List.length_map]; exact Nat.le_of_lt (small1000 (by show bs.length + 1 ≤ 1000; omega)), fun p H6 s6 ep => ?_⟩
          have s56 := sU.trans s6
          have eM6 := s56 _ _ eM2
          refine ⟨_, eM6, by rw [List.length_map]; exact small1000 (by omega), hs ++ [p], by rw [List.length_append, hhl]; rfl, ?_, ?_, ?_⟩
          · rw [upd_same, List.map_append]
            rfl
          · intro g hg
            have tp := tups_put (o := .lst (hs.map V.ref ++ [V.ref p])) eM6
            rcases List.mem_append.mp hg with hg | hg
            · exact (hhb g hg).stay ((Same.tups s56).trans tp)
            · rw [List.mem_singleton.mp hg]
              refine ⟨bs ++ [1], tp _ _ (by rw [ep, List.map_append]; rfl), by rw [List.length_append, hbl]; rfl, fun y hy => ?_⟩
              rcases List.mem_append.mp hy with hy | hy
              · exact hbb y hy
              · rw [List.mem_singleton.mp hy]
                exact bit1
          · intro b u e
            rw [upd_ne (ne_of_none e hM2)]
            exact s56 b u (s5 b u e)
        · obtain ⟨hs, hhl, eM2, hhb, s5⟩ := hp
          have lg : gs.length = fs.length := by rw [hgl, List.length_map]
          have lh : hs.length = fs.length := by rw [hhl, List.length_map]
          refine ⟨M, M2, _, _, rfl, rfl, s5 _ _ eM, eM2, by rw [List.length_map, List.length_map]; exact Nat.le_of_lt (small1000 (by omega)), fun p hp => ?_⟩
          have sp := same_new (o := .lst (gs.map V.ref ++ hs.map V.ref)) hp
          refine ⟨some (.int (0 + i)), p, gs ++ hs, rfl, ?_, ?_, fun g hg => ?_, ((sm.trans s4).trans s5).trans sp⟩
          · rw [upd_same, List.map_append]
          · rw [List.length_append, lg, lh, hfl, Nat.pow_succ]
            omega
          · rcases List.mem_append.mp hg with hg | hg
            · exact (hgb g hg).stay (Same.tups (s5.trans sp))
            · exact (hhb g hg).stay (Same.tups sp)
    · obtain ⟨y2, F1, fs, rfl, eF, hfl, hfb, sm⟩ := hp
      have fs8 : fs.length ≤ 8 := by
        rw [hfl]
        exact Nat.le_trans (Nat.pow_le_pow_right (by decide) m3) (by decide)
      refine ⟨.ref F1, rfl, F1, _, rfl, .inl (.inl eF), by rw [List.length_map]; omega, fun x hx => ?_, fun ys p perm _ hp => ?_⟩
      · obtain ⟨g, hg, rfl⟩ := List.mem_map.mp hx
        obtain ⟨bs, e1, e2, e3⟩ := hfb g hg
        refine ⟨bs, ⟨g, rfl, SqT.of e1⟩, e2, fun y hy => ?_⟩
        rcases e3 y hy with rfl | rfl
        · exact ⟨by decide, by decide⟩
        · exact ⟨by decide, by decide⟩
      · obtain ⟨fs2, rfl, perm2⟩ : ∃ fs2 : List Addr, ys = fs2.map V.ref ∧ ∀ g ∈ fs2, g ∈ fs := by
          have all : ∀ y ∈ ys, ∃ g, g ∈ fs ∧ y = .ref g := fun y hy => by
            obtain ⟨g, hg, e⟩ := List.mem_map.mp (perm.mem_iff.mp hy)
            exact ⟨g, hg, e.symm⟩
          exact refs_of ys all
        have sp := same_new (o := .lst (fs2.map V.ref)) hp
        refine q _ p fs2 (sm.trans sp) upd_same ?_ fun g hg => (hfb g (perm2 g hg)).stay (Same.tups sp)
        have := perm.length_eq
        rw [List.length_map, List.length_map] at this
        rw [this, hfl]
/-! ### the law -/
theorem fc_bits (ds : List Deed) : ∀ x ∈ ds.map fcD, Bit x := by
  intro x hx
  obtain ⟨d, _, rfl⟩ := List.mem_map.mp hx
  unfold fcD
  split
  · exact bit1
  · exact bit0
theorem nice_bits {l : List Int} (h : ∀ x ∈ l, Bit x) (hl : l.length ≤ 100) : Nice 100 1 (.tuple (l.map PyData.int)) := by
  refine nice_tup (b := 0) (k := 0) (fun x hx => ?_) (by rw [List.length_map]; omega)
  obtain ⟨i, hi, rfl⟩ := List.mem_map.mp hx
  exact nice_int (by rcases h i hi with rfl | rfl <;> decide)
theorem law_run {fa fTa fDi fRo fFc fLf fAb fLs fBo fNc : Addr} {fd fdTa fdDi fdRo fdFc fdLf fdAb fdLs fdBo fdNc : FuncData} {s : Shared} {a : Addr} {ns : List Int} {H : Hp} (F : Fun K "law" "law" s_law fa fd) (bL : Binds K fd ["script"] [])
    (GT : FnOk P w K mg base CX0 1 fTa fdTa ["script", "start"] (spTape K)) (kT : PySem.W.keepIn K (.ref fTa) = true) (bT : Binds K fdTa ["script", "start"] []) (gT : mg "_law_tape" = some (.ref fTa))
    (GD : FnOk P w K mg base CX0 1 fDi fdDi ["tape", "many"] spDigit) (kD : PySem.W.keepIn K (.ref fDi) = true) (bD : Binds K fdDi ["tape", "many"] []) (gD : mg "_law_digit" = some (.ref fDi))
    (GR : FnOk P w K mg base CX0 3 fRo fdRo ["tape", "many", "most", "left"] spTr) (kR : PySem.W.keepIn K (.ref fRo) = true) (bR : Binds K fdRo ["tape", "many", "most", "left"] []) (gR : mg "_law_row" = some (.ref fRo))
    (GF : FnOk P w K mg base CX0 1 fFc fdFc ["row"] spFc) (kF : PySem.W.keepIn K (.ref fFc) = true) (bF : Binds K fdFc ["row"] []) (gF : mg "first_carry" = some (.ref fFc))
    (GL : FnOk P w K mg base CX0 1 fLf fdLf ["row"] spFc) (kL : PySem.W.keepIn K (.ref fLf) = true) (bLf : Binds K fdLf ["row"] []) (gL : mg "_law_first" = some (.ref fLf))
    (GA : FnOk P w K mg base CX0 1 fAb fdAb ["many"] spAb) (kA : PySem.W.keepIn K (.ref fAb) = true) (bA : Binds K fdAb ["many"] []) (gA : mg "_law_bits" = some (.ref fAb))
    (GS : FnOk P w K mg base CX0 2 fLs fdLs ["row", "carry", "bits"] spLs) (kS : PySem.W.keepIn K (.ref fLs) = true) (bS : Binds K fdLs ["row", "carry", "bits"] []) (gS : mg "_law_step" = some (.ref fLs))
    (GB : FnOk P w K mg base CX0 2 fBo fdBo ["row", "carry", "bits"] spBo) (kB : PySem.W.keepIn K (.ref fBo) = true) (bB : Binds K fdBo ["row", "carry", "bits"] []) (gB : mg "bits_of" = some (.ref fBo))
    (GN : FnOk P w K mg base CX0 4 fNc fdNc ["row", "carry", "bits"] spNc) (kN : PySem.W.keepIn K (.ref fNc) = true) (bN : Binds K fdNc ["row", "carry", "bits"] []) (gN : mg "next_carry" = some (.ref fNc))
    (mr : mg "range" = none) (mp : mg "repr" = none) (mn : mg "len" = none) (mt : mg "tuple" = none) (mx : mg "max" = none) (mi : mg "min" = none) (hlen : ns.length ≤ 63) (hbits : ∀ z ∈ ns, Builtin.Int.intBits z ≤ 1048576) (e0 : Env0 P w K mg base callerA [] s H) (hS : SqL K H a (ns.map V.int)) :
    codeAny (model P w) callerA (.call (.ref fa) ⟨[.ref a], []⟩) (CR CX0 [] P w H s (fun v _ => v = .bl true) E0) s := by
  refine fn_at (k := 4) (us := [.ref a]) (vs := [.ref a]) F sc_law ⟨rfl, by decide, by decide⟩ e0 ?_ (.cons rfl .nil) rfl (fun cdv => ?_)
  · have := bL s [.ref a] (e0.mod.kin.keeps fun b o e => (e0.bs b o e).1) rfl
    simpa using this
  have hr : Room 4 (callerA.deeper (envOfC "law" (defScope s_law) s.heap.objs.size fa cdv)) := Room.deeper (k := 4) ⟨rfl, by decide, by decide⟩ _
  have hg : (callerA.deeper (envOfC "law" (defScope s_law) s.heap.objs.size fa cdv)).guards = some [] := rfl
  have R1 := hr.mono (show 1 ≤ 4 by decide)
  have R2 := hr.mono (show 2 ≤ 4 by decide)
  have R3 := hr.mono (show 3 ≤ 4 by decide)
  refine ⟨_, pss_cons (ps_for PassesOwn.never rfl (pi_range1 (by rfl) mr (pa_cons (pe_callB (call_max2 rfl) (by rfl) mx (by decide +kernel) (pa_cons pe_int (pa_cons (pe_callB (call_min2 rfl) (by rfl) mi (by decide +kernel) (pa_cons pe_int (pa_cons (pe_callB call_len_seq (by rfl) mn PySem.boot_len (pa_cons (pv 0) pa_nil)) pa_nil))) pa_nil))) pa_nil)) (pg_name (i := 1) sc_law.nd rfl (.inl rfl))
      (pss_cons (ps_set (i := 2) sc_law.nd rfl (.inr rfl) (pe_call GT R1 (by rfl) gT kT bT .nil pass0 (pa_cons (pv 0) (pa_cons (pv 1) pa_nil))))
      (pss_cons (ps_set (i := 3) sc_law.nd rfl (.inl rfl) (pe_op op_add pe_int (pe_call GD R1 (by rfl) gD kD bD .nil pass0 (pa_cons (pv 2) (pa_cons pe_int pa_nil)))))
      (pss_cons (ps_set (i := 4) sc_law.nd rfl (.inl rfl) (pe_call GR R3 (by rfl) gR kR bR .nil pass0 (pa_cons (pv 2) (pa_cons (pv 3) (pa_cons pe_int (pa_cons pe_int pa_nil))))))
      (pss_cons (ps_set (i := 5) sc_law.nd rfl (.inl rfl) (pe_callB (call_repr hg hr.units) (by rfl) mp (by decide +kernel) (pa_cons (pv 4) pa_nil)))
      (pss_cons (ps_if (pt_cmpR op_ne (pe_callB (call_repr hg hr.units) (by rfl) mp (by decide +kernel) (pa_cons (pe_call GF R1 (by rfl) gF kF bF .nil pass0 (pa_cons (pv 4) pa_nil)) pa_nil)) (pe_callB (call_repr hg hr.units) (by rfl) mp (by decide +kernel) (pa_cons (pe_call GL R1 (by rfl) gL kL bLf .nil pass0 (pa_cons (pv 4) pa_nil)) pa_nil)) (nomark _)) (pss_one (ps_ret pe_bl)) pss_nil)
      (pss_cons (ps_set (i := 6) sc_law.nd rfl (.inl rfl) (pe_call GL R1 (by rfl) gL kL bLf .nil pass0 (pa_cons (pv 4) pa_nil)))
      (pss_cons (ps_for PassesOwn.never rfl (pi_range1 (by rfl) mr (pa_cons pe_int pa_nil)) (pg_name (i := 7) sc_law.nd rfl (.inl rfl))
        (pss_cons (ps_for PassesOwn.never rfl (pi_list (pe_call GA R1 (by rfl) gA kA bA .nil pass0 (pa_cons (pv 3) pa_nil))) (pg_name (i := 8) sc_law.nd rfl (.inl rfl))
          (pss_cons (ps_asg (pe_call GS R2 (by rfl) gS kS bS .nil pass0 (pa_cons (pv 4) (pa_cons (pv 6) (pa_cons (pv 8) pa_nil)))) (pg_tup rfl (pgs_cons (pg_name (i := 9) sc_law.nd rfl (.inl rfl)) (pgs_cons (pg_name (i := 10) sc_law.nd rfl (.inl rfl)) pgs_nil))))
          (pss_one (ps_if (PW.pt (pw_or (pt_cmpR op_ne (pe_callB (call_repr hg hr.units) (by rfl) mp (by decide +kernel) (pa_cons (pe_call GB R2 (by rfl) gB kB bB .nil pass0 (pa_cons (pv 4) (pa_cons (pv 6) (pa_cons (pv 8) pa_nil)))) pa_nil)) (pe_callB (call_repr hg hr.units) (by rfl) mp (by decide +kernel) (pa_cons (pv 9) pa_nil)) (nomark _))
              (pw_or1 (pt_cmpR op_ne (pe_callB (call_repr hg hr.units) (by rfl) mp (by decide +kernel) (pa_cons (pe_call GN hr (by rfl) gN kN bN .nil pass0 (pa_cons (pv 4) (pa_cons (pv 6) (pa_cons (pv 8) pa_nil)))) pa_nil)) (pe_callB (call_repr hg hr.units) (by rfl) mp (by decide +kernel) (pa_cons (pv 10) pa_nil)) (nomark _)))))
            (pss_one (ps_ret pe_bl)) pss_nil))))
        (pss_one (ps_if (pt_cmpR op_eq (pe_op op_mod (pv 7) pe_int) pe_int (nomark _))
          (pss_one (ps_set (i := 6) sc_law.nd rfl (.inl rfl) (pe_ix ix_tup (pe_call GS R2 (by rfl) gS kS bS .nil pass0 (pa_cons (pv 4) (pa_cons (pv 6) (pa_cons (pe_ix ix_list (pe_call GA R1 (by rfl) gA kA bA .nil pass0 (pa_cons (pv 3) pa_nil)) (pe_call GD R1 (by rfl) gD kD bD .nil pass0 (pa_cons (pv 2) (pa_cons (pe_op op_mul pe_int (pv 3)) pa_nil))) (fun _ _ => rfl)) pa_nil)))) pe_int (fun _ _ => rfl))))
          (pss_one (ps_set (i := 6) sc_law.nd rfl (.inl rfl) (pe_callTy call_tuple_of (by rfl) mt (by decide +kernel) (pa_cons
            (pe_lc (own := [("deed", 11)]) (g := gName 11) (by rfl) sc_law.nd (pi_tup (pe_ix ix_tup (pv 4) pe_int (fun _ _ => rfl))) (blkOk_by (own := [("deed", 11)]) (N := N_law) (sc := defScope s_law) (by decide +kernel)) (fun _ _ _ _ _ => pg_name (i := 11) sc_law.nd rfl (Or.inl rfl)) (fun _ _ _ _ _ => pts_nil)
              (fun _ _ _ _ _ => pe_call GD R1 (by rfl) gD kD bD .nil pass0 (pa_cons (pv 2) (pa_cons pe_int pa_nil)))) pa_nil))))))))
      (pss_one (ps_if (pt_cmpR op_ne (pe_callB (call_repr hg hr.units) (by rfl) mp (by decide +kernel) (pa_cons (pv 4) pa_nil)) (pv 5) (nomark _)) (pss_one (ps_ret pe_bl)) pss_nil))))))))))
    (pss_one (ps_ret pe_bl)), ?_⟩
  refine ⟨.ref a, rfl, a, _, rfl, .inl hS, 6, _, rfl, 1, _, rfl, ?_⟩
  obtain ⟨N, hN⟩ : ∃ N : Int, N = if (if ((ns.map V.int).length : Int) < 6 then ((ns.map V.int).length : Int) else 6) > 1 then (if ((ns.map V.int).length : Int) < 6 then ((ns.map V.int).length : Int) else 6) else 1 := ⟨_, rfl⟩
  have hN1 : 0 ≤ N ∧ N ≤ 6 := by
    rw [hN]
    split <;> split <;> omega
  rw [← hN]
  refine ⟨N, rfl, by omega, by omega, for_range (lo := 0) (n := N.toNat) (fun i σ H3 => (∃ y1 y2 y3 y4 y5 y6 y7 y8 y9 y10 y11, σ = [some (.ref a), y1, y2, y3, y4, y5, y6, y7, y8, y9, y10, y11]) ∧ Same H H3) ⟨⟨none, none, none, none, none, none, none, none, none, none, none, rfl⟩, Same.refl H⟩ (fun i σ H3 hi hp => ?_) (fun σ H3 hp => rfl)⟩
  obtain ⟨⟨y1, y2, y3, y4, y5, y6, y7, y8, y9, y10, y11, rfl⟩, s3⟩ := hp
  refine ⟨.ref a, rfl, .int (0 + i), rfl, a, ns, 0 + i, rfl, s3.seq hS, by omega, by omega, fun H4 tp s4 htp t4 => ?_⟩
  have nold : ∀ b o, H b = some o → b ≠ tp := fun b o e => ne_of_none (s3 _ _ e) htp
  refine ⟨.ref tp, rfl, tp, 3, rfl, by decide, by decide, t4, fun H5 mz m0 m1 t5 b5 => ⟨1, mz, rfl, rfl, ?_⟩⟩
  refine ⟨.ref tp, rfl, .int (1 + mz), rfl, tp, 1 + mz, 8, 8, rfl, by omega, by omega, by decide, by decide, t5, fun H6 R ds o hrow hok hl8 t6 b6 => ?_⟩
  have s6 : Same H H6 := fun b v e => b6 b v (nold b v e) (b5 b v (nold b v e) (s4 _ _ (s3 _ _ e)))
  have nr := nice_row hok
  have hl := hok.len
  refine ⟨.ref R, rfl, _, _, rfl, .inl (rz_row hrow), nr.sh, Nat.le_trans nr.dp (by decide), nr.fits (by decide), ?_⟩
  have fb := fc_bits ds
  have nf := nice_bits fb (by rw [List.length_map]; omega)
  refine ⟨.ref R, rfl, R, _, o, ds, rfl, hrow, by omega, fun H7 p1 s7 _ e7 => ?_⟩
  refine ⟨.ref p1, _, rfl, .inl (Rz.tup (SqT.of e7) (rz_ints H7 _)), nf.sh, Nat.le_trans nf.dp (by decide), nf.fits (by decide), ?_⟩
  have hrow7 := (Same.tups s7).row hrow
  refine ⟨.ref R, rfl, R, _, o, ds, rfl, hrow7, by omega, fun H8 p2 s8 _ e8 => ?_⟩
  refine ⟨.ref p2, _, rfl, .inl (Rz.tup (SqT.of e8) (rz_ints H8 _)), nf.sh, Nat.le_trans nf.dp (by decide), nf.fits (by decide), rfl, _, rfl, iteNS rfl ?_⟩
  have hrow8 := (Same.tups s8).row hrow7
  refine ⟨.ref R, rfl, R, _, o, ds, rfl, hrow8, by omega, fun H9 C s9 _ eC => ?_⟩
  obtain ⟨M, hM⟩ : ∃ M : Nat, 1 + mz = (M : Int) := ⟨(1 + mz).toNat, by omega⟩
  have hM1 : 1 ≤ M ∧ M ≤ 3 := by omega
  refine ⟨5, rfl, by decide, by decide, for_range (lo := 0) (n := 5) (fun j σ H10 => ∃ y7 y8 y9 y10 y11 C cs, σ = [some (.ref a), some (.int (0 + i)), some (.ref tp), some (.int (1 + mz)), some (.ref R), some (.str (rowD (1 + mz) ds o).shown), some (.ref C), y7, y8, y9, y10, y11] ∧ RowAt H10 R (1 + mz) ds o ∧ H10 C = some (.tup (cs.map V.int)) ∧ cs.length = ds.length ∧ (∀ x ∈ cs, Bit x) ∧ TP H10 tp ∧ Same H H10)
    ⟨y7, y8, y9, y10, y11, C, ds.map fcD, rfl, (Same.tups s9).row hrow8, eC, List.length_map _, fb, (t6.same s7 |>.same s8).same s9, ((s6.trans s7).trans s8).trans s9⟩ (fun j σ H10 hj hp => ?_) (fun σ H10 hp => ?_)⟩
  · obtain ⟨y7, y8, y9, y10, y11, C, cs, rfl, hrow10, eC10, hcl, cb, t10, s10⟩ := hp
    refine ⟨.int (1 + mz), rfl, M, congrArg (fun z => [V.int z]) hM, hM1.1, hM1.2, fun H11 Fb fs s11 eF hfl hfb => ?_⟩
    refine ⟨Fb, rfl, ⟨_, .inl (.inl eF)⟩, for_list (K := K) (a := Fb) (xs := fs.map V.ref) (fun k σ H12 => (∃ y8 y9 y10, σ = [some (.ref a), some (.int (0 + i)), some (.ref tp), some (.int (1 + mz)), some (.ref R), some (.str (rowD (1 + mz) ds o).shown), some (.ref C), some (.int (0 + j)), y8, y9, y10, y11]) ∧ Same H11 H12) ⟨⟨y8, y9, y10, rfl⟩, Same.refl H11⟩ (fun k σ H12 _ hp => .inl (.inl (hp.2 _ _ eF))) (fun k x σ H12 hx hp => ?_) (fun σ H12 hp => ?_)⟩
    · obtain ⟨⟨y8, y9, y10, rfl⟩, s12⟩ := hp
      obtain ⟨f, hf, rfl⟩ : ∃ f, f ∈ fs ∧ x = .ref f := by
        obtain ⟨f, hf, e⟩ := List.mem_map.mp (List.mem_of_getElem? hx)
        exact ⟨f, hf, e.symm⟩
      have sA := s11.trans s12
      obtain ⟨bs, eB, hbl, bb⟩ := (hfb f hf).stay (Same.tups s12)
      have hrow12 := (Same.tups sA).row hrow10
      have eC12 := sA _ _ eC10
      have hm : (bs.length : Int) = 1 + mz := by omega
      refine ⟨.ref R, rfl, .ref C, rfl, .ref f, rfl, R, C, f, 1 + mz, o, ds, cs, bs, rfl, hrow12, hok.deeds, by omega, eC12, hcl, eB, hm, by omega, cb, bb, fun H13 pp A2 B2 s13 ep eA2 eB2 => ?_⟩
      refine ⟨pp, [.ref A2, .ref B2], rfl, .inl (.inl ep), rfl, .ref A2, [.ref B2], rfl, .ref B2, [], rfl, rfl, ?_⟩
      have hrow13 := (Same.tups s13).row hrow12
      have ab : ∀ x ∈ bts ds cs bs, Bit x := bts_bits bb cb
      have lb : (bts ds cs bs).length = bs.length + ds.length := bts_len hcl.symm
      have nb := nice_bits ab (by omega)
      have nbs : ∀ x ∈ nxt ds cs (bts ds cs bs), Bit x := nxt_bits ab cb
      have nn := nice_bits nbs (by rw [nxt_len hcl.symm]; omega)
      refine ⟨.ref R, rfl, .ref C, rfl, .ref f, rfl, R, C, f, 1 + mz, o, ds, cs, bs, rfl, hrow13, hok.deeds, by omega, s13 _ _ eC12, hcl, s13 _ _ eB, hm, by omega, fun H14 p3 s14 _ e14 => ?_⟩
      refine ⟨.ref p3, _, rfl, .inl (Rz.tup (SqT.of e14) (rz_ints H14 _)), nb.sh, Nat.le_trans nb.dp (by decide), nb.fits (by decide), ?_⟩
      refine ⟨.ref A2, rfl, .ref A2, _, rfl, .inl (Rz.tup (SqT.of (s14 _ _ eA2)) (rz_ints H14 _)), nb.sh, Nat.le_trans nb.dp (by decide), nb.fits (by decide), rfl, _, rfl, iteNS rfl ?_⟩
      refine ⟨.ref R, rfl, .ref C, rfl, .ref f, rfl, R, C, f, 1 + mz, o, ds, cs, bs, rfl, (Same.tups s14).row hrow13, hok.deeds, by omega, s14 _ _ (s13 _ _ eC12), hcl, s14 _ _ (s13 _ _ eB), hm, by omega, fun H15 p4 s15 _ e15 => ?_⟩
      refine ⟨.ref p4, _, rfl, .inl (Rz.tup (SqT.of e15) (rz_ints H15 _)), nn.sh, Nat.le_trans nn.dp (by decide), nn.fits (by decide), ?_⟩
      refine ⟨.ref B2, rfl, .ref B2, _, rfl, .inl (Rz.tup (SqT.of (s15 _ _ (s14 _ _ eB2))) (rz_ints H15 _)), nn.sh, Nat.le_trans nn.dp (by decide), nn.fits (by decide), rfl, _, rfl, iteNS rfl ?_⟩
      exact ⟨⟨_, _, _, rfl⟩, ((s12.trans s13).trans s14).trans s15⟩
    · obtain ⟨⟨y8', y9', y10', rfl⟩, s12⟩ := hp
      have sA := s11.trans s12
      have hrow12 := (Same.tups sA).row hrow10
      have eC12 := sA _ _ eC10
      have t12 := t10.same sA
      have sH12 := s10.trans sA
      refine ⟨.int (0 + j), rfl, 0 + j, 2, rfl, rfl, (by show (0 : Int) < 2; decide), rfl, _, rfl, ite2 (fun e => ?_) (fun e => ?_)⟩
      · refine ⟨.ref R, rfl, .ref C, rfl, .int (1 + mz), rfl, M, congrArg (fun z => [V.int z]) hM, hM1.1, hM1.2, fun H13 Fb2 fs2 s13 eF2 hfl2 hfb2 => ?_⟩
        refine ⟨.ref tp, rfl, .int (1 + mz), rfl, 2, 1 + mz, rfl, rfl, .inl ⟨by decide, by decide⟩, tp, 2 * (1 + mz), rfl, by omega, by omega, t12.same s13, fun H14 z z0 z1 t14 b14 => ?_⟩
        have t13 := t12.same s13
        have nF : Fb2 ≠ tp := by
          obtain ⟨x, y, ex⟩ := t13
          refine ne_of eF2 ex (fun q => ?_)
          have q1 : fs2.map V.ref = [.int x, .int y] := by injection q
          cases fs2 with
          | nil => simp at q1
          | cons f fs2 => simp at q1
        have fl : 2 * (1 + mz) ≤ ((fs2.map V.ref).length : Int) := by
          rw [List.length_map, hfl2]
          have hMM : M = 1 ∨ M = 2 ∨ M = 3 := by omega
          rcases hMM with rfl | rfl | rfl
          · show 2 * (1 + mz) ≤ 2
            omega
          · show 2 * (1 + mz) ≤ 4
            omega
          · show 2 * (1 + mz) ≤ 8
            omega
        obtain ⟨v, hv, hvm⟩ := atI_in z0 (show z < ((fs2.map V.ref).length : Int) by omega)
        obtain ⟨f, hf, rfl⟩ := List.mem_map.mp hvm
        have ts : TupsStay H13 H14 := b14.tape t13
        obtain ⟨bs, eB, hbl, bb⟩ := (hfb2 f hf).stay ts
        have hrow14 := ts.row ((Same.tups s13).row hrow12)
        have eC14 := ts _ _ (s13 _ _ eC12)
        refine ⟨Fb2, _, z, .ref f, rfl, rfl, .inl (.inl (b14 _ _ nF eF2)), hv, R, C, f, 1 + mz, o, ds, cs, bs, rfl, hrow14, hok.deeds, by omega, eC14, hcl, eB, by omega, by omega, cb, bb, fun H15 pp A2 B2 s15 ep eA2 eB2 => ?_⟩
        refine ⟨pp, _, 1, .ref B2, rfl, rfl, SqT.of ep, rfl, ?_⟩
        have ab : ∀ x ∈ bts ds cs bs, Bit x := bts_bits bb cb
        refine ⟨_, _, _, _, _, B2, nxt ds cs (bts ds cs bs), rfl, (Same.tups s15).row hrow14, eB2, nxt_len hcl.symm, nxt_bits ab cb, t14.same s15, fun b v e => ?_⟩
        exact s15 _ _ (b14 b v (nold b v e) (s13 _ _ (sH12 _ _ e)))
      · obtain ⟨D, rs, eR, eD, hd⟩ := id hrow12
        refine ⟨.ref R, rfl, R, _, 1, .ref D, rfl, rfl, SqT.of eR, rfl, D, rfl, ⟨_, SqT.of eD⟩, fun L hL => ?_⟩
        have nL := t12.ne_new hL
        refine lc_tup (K := K) (a := D) (xs := rs.map V.ref) (fun k H13 => ∃ zs : List Int, zs.length = k ∧ (∀ x ∈ zs, Bit x) ∧ H13 L = some (.lst (zs.map V.int)) ∧ TP H13 tp ∧ But tp H12 H13 ∧ TupsStay H12 H13) ⟨[], rfl, (fun _ z => nomatch z), upd_same, t12.upd nL, But.same (same_new hL), Same.tups (same_new hL)⟩ (fun k H13 _ hp => ?_) (fun k x H13 hx hp => ?_) (fun H13 hp => ?_)
        · obtain ⟨_, _, _, _, _, _, ts⟩ := hp
          exact SqT.of (ts _ _ eD)
        · obtain ⟨zs, hz, zb, eL, t13, b13, ts13⟩ := hp
          have hk : k < rs.length := by
            have := (List.getElem?_eq_some_iff.mp hx).1
            rwa [List.length_map] at this
          have lrs := awLen hd
          refine ⟨rfl, .ref tp, rfl, tp, 2, rfl, by decide, by decide, t13, fun H14 z z0 z1 t14 b14 => ?_⟩
          have eL14 := b14 _ _ nL eL
          refine ⟨_, eL14, by rw [List.length_map]; exact small1000 (by omega), zs ++ [z], by rw [List.length_append, hz]; rfl, ?_, ?_, t14.upd nL, ?_, ?_⟩
          · intro y hy
            rcases List.mem_append.mp hy with hy | hy
            · exact zb y hy
            · rw [List.mem_singleton.mp hy]
              show z = 0 ∨ z = 1
              omega
          · rw [upd_same, List.map_append]
            rfl
          · intro b v nb e
            rw [upd_ne (ne_of_none e hL)]
            exact b14 b v nb (b13 b v nb e)
          · exact (ts13.trans (b14.tape t13)).trans (tups_put eL14)
        · obtain ⟨zs, hz, zb, eL, t13, b13, ts13⟩ := hp
          refine ⟨L, _, rfl, .inl ⟨.inl (.inl eL), fun p5 hp5 => ?_⟩⟩
          have s5 := same_new (o := .tup (zs.map V.int)) hp5
          refine ⟨_, _, _, _, _, p5, zs, rfl, (ts13.trans (Same.tups s5)).row hrow12, upd_same, by rw [hz, List.length_map, awLen hd], zb, t13.same s5, fun b v e => ?_⟩
          exact s5 _ _ (b13 b v (nold b v e) (sH12 _ _ e))
  · obtain ⟨y7, y8, y9, y10, y11, C, cs, rfl, hrow10, eC10, hcl, cb, t10, s10⟩ := hp
    refine ⟨.ref R, rfl, _, _, rfl, .inl (rz_row hrow10), nr.sh, Nat.le_trans nr.dp (by decide), nr.fits (by decide), ?_⟩
    refine ⟨_, rfl, rfl, _, rfl, iteNS rfl ?_⟩
    exact ⟨⟨_, _, _, _, _, _, _, _, _, _, _, rfl⟩, s10⟩
/-! ### what the top has written -/
theorem all_mk {l : PySem.W.OpenLaw} {w : World} {K : PySem.W.Frag} {h : Heap} {mg : Str → Option Value} {fa : Addr} (X : K.In h) (G : h.Ns mainGlobals mg) (hfa : mg "law" = some (.ref fa))
    {f0 : Addr} {od0 an0 : Option Addr} {sl0 : Array (Option Value)} {oc0 kV0 dc0 pm0 cd0 ct0 : Value}
    {f1 : Addr} {od1 an1 : Option Addr} {sl1 : Array (Option Value)} {oc1 kV1 dc1 pm1 cd1 ct1 : Value}
    {f2 : Addr} {od2 an2 : Option Addr} {sl2 : Array (Option Value)} {oc2 kV2 dc2 pm2 cd2 ct2 : Value}
    {f3 : Addr} {od3 an3 : Option Addr} {sl3 : Array (Option Value)} {oc3 kV3 dc3 pm3 cd3 ct3 : Value}
    {f4 : Addr} {od4 an4 : Option Addr} {sl4 : Array (Option Value)} {oc4 kV4 dc4 pm4 cd4 ct4 : Value}
    {f5 : Addr} {od5 an5 : Option Addr} {sl5 : Array (Option Value)} {oc5 kV5 dc5 pm5 cd5 ct5 : Value}
    {f6 : Addr} {od6 an6 : Option Addr} {sl6 : Array (Option Value)} {oc6 kV6 dc6 pm6 cd6 ct6 : Value}
    {f7 : Addr} {od7 an7 : Option Addr} {sl7 : Array (Option Value)} {oc7 kV7 dc7 pm7 cd7 ct7 : Value}
    {f8 : Addr} {od8 an8 : Option Addr} {sl8 : Array (Option Value)} {oc8 kV8 dc8 pm8 cd8 ct8 : Value}
    {f9 : Addr} {od9 an9 : Option Addr} {sl9 : Array (Option Value)} {oc9 kV9 dc9 pm9 cd9 ct9 : Value}
    {f10 : Addr} {od10 an10 : Option Addr} {sl10 : Array (Option Value)} {oc10 kV10 dc10 pm10 cd10 ct10 : Value}
    {f11 : Addr} {od11 an11 : Option Addr} {sl11 : Array (Option Value)} {oc11 kV11 dc11 pm11 cd11 ct11 : Value}
    {f12 : Addr} {od12 an12 : Option Addr} {sl12 : Array (Option Value)} {oc12 kV12 dc12 pm12 cd12 ct12 : Value}
    {f13 : Addr} {od13 an13 : Option Addr} {sl13 : Array (Option Value)} {oc13 kV13 dc13 pm13 cd13 ct13 : Value}
    {f14 : Addr} {od14 an14 : Option Addr} {sl14 : Array (Option Value)} {oc14 kV14 dc14 pm14 cd14 ct14 : Value}
    {f15 : Addr} {od15 an15 : Option Addr} {sl15 : Array (Option Value)} {oc15 kV15 dc15 pm15 cd15 ct15 : Value}
    {f16 : Addr} {od16 an16 : Option Addr} {sl16 : Array (Option Value)} {oc16 kV16 dc16 pm16 cd16 ct16 : Value}
    {f17 : Addr} {od17 an17 : Option Addr} {sl17 : Array (Option Value)} {oc17 kV17 dc17 pm17 cd17 ct17 : Value}
    (a0 : PySem.W.nsIn K mainGlobals "first_carry" = some (some (.ref f0)))
    (l0 : K.lookup f0 = some ⟨oc0, od0, .func (PySem.W.fnOf "first_carry" "first_carry" (defArgs s_first_carry) (defBody s_first_carry) (defScope s_first_carry) .none kV0 dc0 pm0 an0 cd0 ct0), sl0⟩)
    (c0 : PySem.W.codeIn K cd0 "first_carry" = true) (k0 : PySem.W.keepIn K (.ref f0) = true)
    (a1 : PySem.W.nsIn K mainGlobals "deed_bit" = some (some (.ref f1)))
    (l1 : K.lookup f1 = some ⟨oc1, od1, .func (PySem.W.fnOf "deed_bit" "deed_bit" (defArgs s_deed_bit) (defBody s_deed_bit) (defScope s_deed_bit) .none kV1 dc1 pm1 an1 cd1 ct1), sl1⟩)
    (c1 : PySem.W.codeIn K cd1 "deed_bit" = true) (k1 : PySem.W.keepIn K (.ref f1) = true)
    (a2 : PySem.W.nsIn K mainGlobals "bits_of" = some (some (.ref f2)))
    (l2 : K.lookup f2 = some ⟨oc2, od2, .func (PySem.W.fnOf "bits_of" "bits_of" (defArgs s_bits_of) (defBody s_bits_of) (defScope s_bits_of) .none kV2 dc2 pm2 an2 cd2 ct2), sl2⟩)
    (c2 : PySem.W.codeIn K cd2 "bits_of" = true) (k2 : PySem.W.keepIn K (.ref f2) = true)
    (a3 : PySem.W.nsIn K mainGlobals "two_or_more" = some (some (.ref f3)))
    (l3 : K.lookup f3 = some ⟨oc3, od3, .func (PySem.W.fnOf "two_or_more" "two_or_more" (defArgs s_two_or_more) (defBody s_two_or_more) (defScope s_two_or_more) .none kV3 dc3 pm3 an3 cd3 ct3), sl3⟩)
    (c3 : PySem.W.codeIn K cd3 "two_or_more" = true) (k3 : PySem.W.keepIn K (.ref f3) = true)
    (a4 : PySem.W.nsIn K mainGlobals "deed_carry" = some (some (.ref f4)))
    (l4 : K.lookup f4 = some ⟨oc4, od4, .func (PySem.W.fnOf "deed_carry" "deed_carry" (defArgs s_deed_carry) (defBody s_deed_carry) (defScope s_deed_carry) .none kV4 dc4 pm4 an4 cd4 ct4), sl4⟩)
    (c4 : PySem.W.codeIn K cd4 "deed_carry" = true) (k4 : PySem.W.keepIn K (.ref f4) = true)
    (a5 : PySem.W.nsIn K mainGlobals "carry_behind" = some (some (.ref f5)))
    (l5 : K.lookup f5 = some ⟨oc5, od5, .func (PySem.W.fnOf "carry_behind" "carry_behind" (defArgs s_carry_behind) (defBody s_carry_behind) (defScope s_carry_behind) .none kV5 dc5 pm5 an5 cd5 ct5), sl5⟩)
    (c5 : PySem.W.codeIn K cd5 "carry_behind" = true) (k5 : PySem.W.keepIn K (.ref f5) = true)
    (a6 : PySem.W.nsIn K mainGlobals "next_carry" = some (some (.ref f6)))
    (l6 : K.lookup f6 = some ⟨oc6, od6, .func (PySem.W.fnOf "next_carry" "next_carry" (defArgs s_next_carry) (defBody s_next_carry) (defScope s_next_carry) .none kV6 dc6 pm6 an6 cd6 ct6), sl6⟩)
    (c6 : PySem.W.codeIn K cd6 "next_carry" = true) (k6 : PySem.W.keepIn K (.ref f6) = true)
    (a7 : PySem.W.nsIn K mainGlobals "_law_tape" = some (some (.ref f7)))
    (l7 : K.lookup f7 = some ⟨oc7, od7, .func (PySem.W.fnOf "_law_tape" "_law_tape" (defArgs s_law_tape) (defBody s_law_tape) (defScope s_law_tape) .none kV7 dc7 pm7 an7 cd7 ct7), sl7⟩)
    (c7 : PySem.W.codeIn K cd7 "_law_tape" = true) (k7 : PySem.W.keepIn K (.ref f7) = true)
    (a8 : PySem.W.nsIn K mainGlobals "_law_digit" = some (some (.ref f8)))
    (l8 : K.lookup f8 = some ⟨oc8, od8, .func (PySem.W.fnOf "_law_digit" "_law_digit" (defArgs s_law_digit) (defBody s_law_digit) (defScope s_law_digit) .none kV8 dc8 pm8 an8 cd8 ct8), sl8⟩)
    (c8 : PySem.W.codeIn K cd8 "_law_digit" = true) (k8 : PySem.W.keepIn K (.ref f8) = true)
    (a9 : PySem.W.nsIn K mainGlobals "_law_deed" = some (some (.ref f9)))
    (l9 : K.lookup f9 = some ⟨oc9, od9, .func (PySem.W.fnOf "_law_deed" "_law_deed" (defArgs s_law_deed) (defBody s_law_deed) (defScope s_law_deed) .none kV9 dc9 pm9 an9 cd9 ct9), sl9⟩)
    (c9 : PySem.W.codeIn K cd9 "_law_deed" = true) (k9 : PySem.W.keepIn K (.ref f9) = true)
    (a10 : PySem.W.nsIn K mainGlobals "_law_carrying" = some (some (.ref f10)))
    (l10 : K.lookup f10 = some ⟨oc10, od10, .func (PySem.W.fnOf "_law_carrying" "_law_carrying" (defArgs s_law_carrying) (defBody s_law_carrying) (defScope s_law_carrying) .none kV10 dc10 pm10 an10 cd10 ct10), sl10⟩)
    (c10 : PySem.W.codeIn K cd10 "_law_carrying" = true) (k10 : PySem.W.keepIn K (.ref f10) = true)
    (a11 : PySem.W.nsIn K mainGlobals "_law_row" = some (some (.ref f11)))
    (l11 : K.lookup f11 = some ⟨oc11, od11, .func (PySem.W.fnOf "_law_row" "_law_row" (defArgs s_law_row) (defBody s_law_row) (defScope s_law_row) .none kV11 dc11 pm11 an11 cd11 ct11), sl11⟩)
    (c11 : PySem.W.codeIn K cd11 "_law_row" = true) (k11 : PySem.W.keepIn K (.ref f11) = true)
    (a12 : PySem.W.nsIn K mainGlobals "_law_bit" = some (some (.ref f12)))
    (l12 : K.lookup f12 = some ⟨oc12, od12, .func (PySem.W.fnOf "_law_bit" "_law_bit" (defArgs s_law_bit) (defBody s_law_bit) (defScope s_law_bit) .none kV12 dc12 pm12 an12 cd12 ct12), sl12⟩)
    (c12 : PySem.W.codeIn K cd12 "_law_bit" = true) (k12 : PySem.W.keepIn K (.ref f12) = true)
    (a13 : PySem.W.nsIn K mainGlobals "_law_carry" = some (some (.ref f13)))
    (l13 : K.lookup f13 = some ⟨oc13, od13, .func (PySem.W.fnOf "_law_carry" "_law_carry" (defArgs s_law_carry) (defBody s_law_carry) (defScope s_law_carry) .none kV13 dc13 pm13 an13 cd13 ct13), sl13⟩)
    (c13 : PySem.W.codeIn K cd13 "_law_carry" = true) (k13 : PySem.W.keepIn K (.ref f13) = true)
    (a14 : PySem.W.nsIn K mainGlobals "_law_step" = some (some (.ref f14)))
    (l14 : K.lookup f14 = some ⟨oc14, od14, .func (PySem.W.fnOf "_law_step" "_law_step" (defArgs s_law_step) (defBody s_law_step) (defScope s_law_step) .none kV14 dc14 pm14 an14 cd14 ct14), sl14⟩)
    (c14 : PySem.W.codeIn K cd14 "_law_step" = true) (k14 : PySem.W.keepIn K (.ref f14) = true)
    (a15 : PySem.W.nsIn K mainGlobals "_law_first" = some (some (.ref f15)))
    (l15 : K.lookup f15 = some ⟨oc15, od15, .func (PySem.W.fnOf "_law_first" "_law_first" (defArgs s_law_first) (defBody s_law_first) (defScope s_law_first) .none kV15 dc15 pm15 an15 cd15 ct15), sl15⟩)
    (c15 : PySem.W.codeIn K cd15 "_law_first" = true) (k15 : PySem.W.keepIn K (.ref f15) = true)
    (a16 : PySem.W.nsIn K mainGlobals "_law_bits" = some (some (.ref f16)))
    (l16 : K.lookup f16 = some ⟨oc16, od16, .func (PySem.W.fnOf "_law_bits" "_law_bits" (defArgs s_law_bits) (defBody s_law_bits) (defScope s_law_bits) .none kV16 dc16 pm16 an16 cd16 ct16), sl16⟩)
    (c16 : PySem.W.codeIn K cd16 "_law_bits" = true) (k16 : PySem.W.keepIn K (.ref f16) = true)
    (a17 : PySem.W.nsIn K mainGlobals "law" = some (some (.ref f17)))
    (l17 : K.lookup f17 = some ⟨oc17, od17, .func (PySem.W.fnOf "law" "law" (defArgs s_law) (defBody s_law) (defScope s_law) .none kV17 dc17 pm17 an17 cd17 ct17), sl17⟩)
    (c17 : PySem.W.codeIn K cd17 "law" = true) (k17 : PySem.W.keepIn K (.ref f17) = true)
    (z_abs : PySem.W.nsIn K mainGlobals "abs" = some none)
    (z_int : PySem.W.nsIn K mainGlobals "int" = some none)
    (z_len : PySem.W.nsIn K mainGlobals "len" = some none)
    (z_list : PySem.W.nsIn K mainGlobals "list" = some none)
    (z_max : PySem.W.nsIn K mainGlobals "max" = some none)
    (z_min : PySem.W.nsIn K mainGlobals "min" = some none)
    (z_range : PySem.W.nsIn K mainGlobals "range" = some none)
    (z_repr : PySem.W.nsIn K mainGlobals "repr" = some none)
    (z_sorted : PySem.W.nsIn K mainGlobals "sorted" = some none)
    (z_tuple : PySem.W.nsIn K mainGlobals "tuple" = some none)
    (z_zip : PySem.W.nsIn K mainGlobals "zip" = some none)
    : ∀ (s : Shared) (a : Addr) (ns : List Int) (base : Heap) (H : Hp), ns.length ≤ 63 → (∀ z ∈ ns, Builtin.Int.intBits z ≤ 1048576) → Env0 l.prog w K mg base callerA [] s H → SqL K H a (ns.map V.int) →
      codeAny (model l.prog w) callerA (.call (.ref fa) ⟨[.ref a], []⟩) (CR CX0 [] l.prog w H s (fun v _ => v = .bl true) E0) s := by
  have F_first_carry := fun_mk (st := s_first_carry) l0 c0 k0
  have b_first_carry := F_first_carry.binds (ps := ["row"]) fun _ _ _ _ _ _ us hl => match us, hl with | [_], _ => rfl
  have g_first_carry := PySem.W.mg_of X G a0
  have F_deed_bit := fun_mk (st := s_deed_bit) l1 c1 k1
  have b_deed_bit := F_deed_bit.binds (ps := ["deed", "held", "told"]) fun _ _ _ _ _ _ us hl => match us, hl with | [_, _, _], _ => rfl
  have g_deed_bit := PySem.W.mg_of X G a1
  have F_bits_of := fun_mk (st := s_bits_of) l2 c2 k2
  have b_bits_of := F_bits_of.binds (ps := ["row", "carry", "bits"]) fun _ _ _ _ _ _ us hl => match us, hl with | [_, _, _], _ => rfl
  have g_bits_of := PySem.W.mg_of X G a2
  have F_two_or_more := fun_mk (st := s_two_or_more) l3 c3 k3
  have b_two_or_more := F_two_or_more.binds (ps := ["one", "other", "third"]) fun _ _ _ _ _ _ us hl => match us, hl with | [_, _, _], _ => rfl
  have g_two_or_more := PySem.W.mg_of X G a3
  have F_deed_carry := fun_mk (st := s_deed_carry) l4 c4 k4
  have b_deed_carry := F_deed_carry.binds (ps := ["deed", "held", "told"]) fun _ _ _ _ _ _ us hl => match us, hl with | [_, _, _], _ => rfl
  have g_deed_carry := PySem.W.mg_of X G a4
  have F_carry_behind := fun_mk (st := s_carry_behind) l5 c5 k5
  have b_carry_behind := F_carry_behind.binds (ps := ["row", "carry", "told"]) fun _ _ _ _ _ _ us hl => match us, hl with | [_, _, _], _ => rfl
  have g_carry_behind := PySem.W.mg_of X G a5
  have F_next_carry := fun_mk (st := s_next_carry) l6 c6 k6
  have b_next_carry := F_next_carry.binds (ps := ["row", "carry", "bits"]) fun _ _ _ _ _ _ us hl => match us, hl with | [_, _, _], _ => rfl
  have g_next_carry := PySem.W.mg_of X G a6
  have F_law_tape := fun_mk (st := s_law_tape) l7 c7 k7
  have b_law_tape := F_law_tape.binds (ps := ["script", "start"]) fun _ _ _ _ _ _ us hl => match us, hl with | [_, _], _ => rfl
  have g_law_tape := PySem.W.mg_of X G a7
  have F_law_digit := fun_mk (st := s_law_digit) l8 c8 k8
  have b_law_digit := F_law_digit.binds (ps := ["tape", "many"]) fun _ _ _ _ _ _ us hl => match us, hl with | [_, _], _ => rfl
  have g_law_digit := PySem.W.mg_of X G a8
  have F_law_deed := fun_mk (st := s_law_deed) l9 c9 k9
  have b_law_deed := F_law_deed.binds (ps := ["tape", "ahead", "left"]) fun _ _ _ _ _ _ us hl => match us, hl with | [_, _, _], _ => rfl
  have g_law_deed := PySem.W.mg_of X G a9
  have F_law_carrying := fun_mk (st := s_law_carrying) l10 c10 k10
  have b_law_carrying := F_law_carrying.binds (ps := ["deeds"]) fun _ _ _ _ _ _ us hl => match us, hl with | [_], _ => rfl
  have g_law_carrying := PySem.W.mg_of X G a10
  have F_law_row := fun_mk (st := s_law_row) l11 c11 k11
  have b_law_row := F_law_row.binds (ps := ["tape", "many", "most", "left"]) fun _ _ _ _ _ _ us hl => match us, hl with | [_, _, _, _], _ => rfl
  have g_law_row := PySem.W.mg_of X G a11
  have F_law_bit := fun_mk (st := s_law_bit) l12 c12 k12
  have b_law_bit := F_law_bit.binds (ps := ["deed", "carry", "bits"]) fun _ _ _ _ _ _ us hl => match us, hl with | [_, _, _], _ => rfl
  have g_law_bit := PySem.W.mg_of X G a12
  have F_law_carry := fun_mk (st := s_law_carry) l13 c13 k13
  have b_law_carry := F_law_carry.binds (ps := ["deed", "carry", "bits"]) fun _ _ _ _ _ _ us hl => match us, hl with | [_, _, _], _ => rfl
  have g_law_carry := PySem.W.mg_of X G a13
  have F_law_step := fun_mk (st := s_law_step) l14 c14 k14
  have b_law_step := F_law_step.binds (ps := ["row", "carry", "bits"]) fun _ _ _ _ _ _ us hl => match us, hl with | [_, _, _], _ => rfl
  have g_law_step := PySem.W.mg_of X G a14
  have F_law_first := fun_mk (st := s_law_first) l15 c15 k15
  have b_law_first := F_law_first.binds (ps := ["row"]) fun _ _ _ _ _ _ us hl => match us, hl with | [_], _ => rfl
  have g_law_first := PySem.W.mg_of X G a15
  have F_law_bits := fun_mk (st := s_law_bits) l16 c16 k16
  have b_law_bits := F_law_bits.binds (ps := ["many"]) fun _ _ _ _ _ _ us hl => match us, hl with | [_], _ => rfl
  have g_law_bits := PySem.W.mg_of X G a16
  have F_law := fun_mk (st := s_law) l17 c17 k17
  have b_law := F_law.binds (ps := ["script"]) fun _ _ _ _ _ _ us hl => match us, hl with | [_], _ => rfl
  obtain rfl : fa = f17 := by
    have e := hfa.symm.trans (PySem.W.mg_of X G a17)
    cases e
    rfl
  have m_abs := PySem.W.mg_none_of X G z_abs
  have m_int := PySem.W.mg_none_of X G z_int
  have m_len := PySem.W.mg_none_of X G z_len
  have m_list := PySem.W.mg_none_of X G z_list
  have m_max := PySem.W.mg_none_of X G z_max
  have m_min := PySem.W.mg_none_of X G z_min
  have m_range := PySem.W.mg_none_of X G z_range
  have m_repr := PySem.W.mg_none_of X G z_repr
  have m_sorted := PySem.W.mg_none_of X G z_sorted
  have m_tuple := PySem.W.mg_none_of X G z_tuple
  have m_zip := PySem.W.mg_none_of X G z_zip
  intro s a ns base H hlen hbits e0 hS
  have GT := ok_tape (P := l.prog) (w := w) (mg := mg) (base := base) (k := 0) F_law_tape m_abs m_len
  have GD := ok_digit (P := l.prog) (w := w) (mg := mg) (base := base) (k := 0) F_law_digit
  have GE := ok_td (P := l.prog) (w := w) (mg := mg) (base := base) (k := 0) F_law_deed GD F_law_digit.kp b_law_digit g_law_digit
  have GCr := ok_cr (P := l.prog) (w := w) (mg := mg) (base := base) (k := 0) F_law_carrying m_len
  have GR := ok_tr (P := l.prog) (w := w) (mg := mg) (base := base) (k := 0) F_law_row GD F_law_digit.kp GE F_law_deed.kp GCr F_law_carrying.kp b_law_digit b_law_deed b_law_carrying g_law_digit g_law_deed g_law_carrying m_tuple m_range m_len
  have GF := ok_fc (P := l.prog) (w := w) (mg := mg) (base := base) (k := 0) F_first_carry m_tuple
  have GDb := ok_db (P := l.prog) (w := w) (mg := mg) (base := base) (k := 0) F_deed_bit
  have GB := ok_bo (P := l.prog) (w := w) (mg := mg) (base := base) (k := 0) F_bits_of GDb F_deed_bit.kp b_deed_bit g_deed_bit m_list m_tuple m_zip
  have GTm := ok_tm (P := l.prog) (w := w) (mg := mg) (base := base) (k := 0) F_two_or_more
  have GDc := ok_dc (P := l.prog) (w := w) (mg := mg) (base := base) (k := 0) F_deed_carry GTm F_two_or_more.kp b_two_or_more g_two_or_more
  have GCb := ok_cb (P := l.prog) (w := w) (mg := mg) (base := base) (k := 0) F_carry_behind GDc F_deed_carry.kp b_deed_carry g_deed_carry m_tuple m_zip
  have GN := ok_nc (P := l.prog) (w := w) (mg := mg) (base := base) (k := 0) F_next_carry GB F_bits_of.kp b_bits_of g_bits_of GCb F_carry_behind.kp b_carry_behind g_carry_behind
  have GLb := ok_lb (P := l.prog) (w := w) (mg := mg) (base := base) (k := 0) F_law_bit m_int m_max
  have GLc := ok_lc (P := l.prog) (w := w) (mg := mg) (base := base) (k := 0) F_law_carry m_int
  have GS := ok_ls (P := l.prog) (w := w) (mg := mg) (base := base) (k := 0) F_law_step GLb F_law_bit.kp b_law_bit g_law_bit GLc F_law_carry.kp b_law_carry g_law_carry m_list m_tuple m_zip
  have GL := ok_lf (P := l.prog) (w := w) (mg := mg) (base := base) (k := 0) F_law_first m_tuple m_int
  have GA := ok_ab (P := l.prog) (w := w) (mg := mg) (base := base) (k := 0) F_law_bits m_range m_sorted
  exact law_run F_law b_law GT F_law_tape.kp b_law_tape g_law_tape GD F_law_digit.kp b_law_digit g_law_digit GR F_law_row.kp b_law_row g_law_row GF F_first_carry.kp b_first_carry g_first_carry GL F_law_first.kp b_law_first g_law_first GA F_law_bits.kp b_law_bits g_law_bits GS F_law_step.kp b_law_step g_law_step GB F_bits_of.kp b_bits_of g_bits_of GN F_next_carry.kp b_next_carry g_next_carry m_range m_repr m_len m_tuple m_max m_min hlen hbits e0 hS
end
end KK
open PySem PySem.W PyProof.Rows
set_option maxHeartbeats 0 in
theorem PySem.Challenge.cw_anywide_k10_carries_step_by_step_holds : PySem.Challenge.rw_anywide_k10_carries_step_by_step.Holds := by
  w_on; o_law; k_head; (case hw => w_witness2)
  k_fill
  refine AW.walkG (l := PySem.Challenge.rw_anywide_k10_carries_step_by_step) (n := 63) rfl (by decide) rfl (fun w h Y => PySem.W.kIn_of Y) ?F
  case F =>
    intro w mg fa h KX G hmg
    refine' KK.all_mk KX G hmg ?a0 ?l0 ?c0 ?k0 ?a1 ?l1 ?c1 ?k1 ?a2 ?l2 ?c2 ?k2 ?a3 ?l3 ?c3 ?k3 ?a4 ?l4 ?c4 ?k4 ?a5 ?l5 ?c5 ?k5 ?a6 ?l6 ?c6 ?k6 ?a7 ?l7 ?c7 ?k7 ?a8 ?l8 ?c8 ?k8 ?a9 ?l9 ?c9 ?k9 ?a10 ?l10 ?c10 ?k10 ?a11 ?l11 ?c11 ?k11 ?a12 ?l12 ?c12 ?k12 ?a13 ?l13 ?c13 ?k13 ?a14 ?l14 ?c14 ?k14 ?a15 ?l15 ?c15 ?k15 ?a16 ?l16 ?c16 ?k16 ?a17 ?l17 ?c17 ?k17 ?z_abs ?z_int ?z_len ?z_list ?z_max ?z_min ?z_range ?z_repr ?z_sorted ?z_tuple ?z_zip
    (case a0 => k_is)
    (case l0 => k_is)
    (case c0 => k_is)
    (case k0 => k_is)
    (case a1 => k_is)
    (case l1 => k_is)
    (case c1 => k_is)
    (case k1 => k_is)
    (case a2 => k_is)
    (case l2 => k_is)
    (case c2 => k_is)
    (case k2 => k_is)
    (case a3 => k_is)
    (case l3 => k_is)
    (case c3 => k_is)
    (case k3 => k_is)
    (case a4 => k_is)
    (case l4 => k_is)
    (case c4 => k_is)
    (case k4 => k_is)
    (case a5 => k_is)
    (case l5 => k_is)
    (case c5 => k_is)
    (case k5 => k_is)
    (case a6 => k_is)
    (case l6 => k_is)
    (case c6 => k_is)
    (case k6 => k_is)
    (case a7 => k_is)
    (case l7 => k_is)
    (case c7 => k_is)
    (case k7 => k_is)
    (case a8 => k_is)
    (case l8 => k_is)
    (case c8 => k_is)
    (case k8 => k_is)
    (case a9 => k_is)
    (case l9 => k_is)
    (case c9 => k_is)
    (case k9 => k_is)
    (case a10 => k_is)
    (case l10 => k_is)
    (case c10 => k_is)
    (case k10 => k_is)
    (case a11 => k_is)
    (case l11 => k_is)
    (case c11 => k_is)
    (case k11 => k_is)
    (case a12 => k_is)
    (case l12 => k_is)
    (case c12 => k_is)
    (case k12 => k_is)
    (case a13 => k_is)
    (case l13 => k_is)
    (case c13 => k_is)
    (case k13 => k_is)
    (case a14 => k_is)
    (case l14 => k_is)
    (case c14 => k_is)
    (case k14 => k_is)
    (case a15 => k_is)
    (case l15 => k_is)
    (case c15 => k_is)
    (case k15 => k_is)
    (case a16 => k_is)
    (case l16 => k_is)
    (case c16 => k_is)
    (case k16 => k_is)
    (case a17 => k_is)
    (case l17 => k_is)
    (case c17 => k_is)
    (case k17 => k_is)
    (case z_abs => k_is)
    (case z_int => k_is)
    (case z_len => k_is)
    (case z_list => k_is)
    (case z_max => k_is)
    (case z_min => k_is)
    (case z_range => k_is)
    (case z_repr => k_is)
    (case z_sorted => k_is)
    (case z_tuple => k_is)
    (case z_zip => k_is)
