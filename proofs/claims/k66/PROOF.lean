import PyProof.Rows.All
import Wide.All
import OpenK.AllK
import Wide.FinOn
import HandS.Base
import HandS.Call
import HandS.List
import HandS.Comp
import HandS.Ends
import HandS.Dict
import HandS.Iter
import HandS.EndBits
import HandS.Words
import HandS.WordsList
import HandS.WordsDict
import HandS.Text
import HandS.Wide
import HandS.WideBits
import HandS.Conv
import HandS.TupLe
import HandS.IsInst
import HandS.ExcIs
import HandS.ExcValue
import HandS.TupSets
import HandS.Zip
import HandS.Walk
import HandS.TupAny
import HandS.Deep
import PyProof.ReprRoads
import PyProof.ReprBulk
import KE.GoesZip
import KE.GoesMore
import KE.GoesEnum
import HandS.DictTup
import HandS.TupLen
import HandS.NoneIn
import HandS.Records
import HandS.Flow
import HandS.More
import KE.KDictWalk
import KE.KDictDisplayH
import PyProof.WalkInts
import PyProof.DictTable
import KE.KeyNested
import KE.KDictKeyed
import PyProof.DictMoreH
import HandS.ListItems
import KE.KTurns
import HandS.Star
import HandS.WordsExc
import HandS.Style
import HandS.RaiseMore
import HandS.FStr
import HandS.ExcOwn
import HandS.ExcCtx
import PySem.Challenge.RW_anywide_k66_rows_that_dont_go_together
set_option Elab.async false
set_option linter.all false
set_option maxRecDepth 100000
namespace AW
open PySem PySem.Spec PyProof.Rows L2

/-! ### a def's call at one around -/
theorem fn_at {P : Program} {w : World} {K : PySem.W.Frag} {mg : Str → Option Value} {base : Heap} {k : Nat} {f : Addr} {x qual : Str} {st : Stmt} {fd : FuncData} {N ps : List Str}
    (F : Fun K x qual st f fd) (S : FnScope N ps (defScope st)) {A : Around} {outer : List Env} {s : Shared} {H : Hp} {args : Args} {us : List Value} {vs : List V} {Q : VK} {E : XK}
    (hr : Room (k + 1) A) (e0 : Env0 P w K mg base A outer s H) (hb : BindsTo s fd args (ps.zip us)) (r : Vals vs us) (hl : vs.length = ps.length)
    (hbody : ∀ cdv : Value, ∃ t, PSs (cxOf CX0 P w K mg base N qual (defScope st) f cdv A outer s H E).nox (defBody st) t ∧ t { nx := fun _ H' => Q .non H', rt := Q } (start N vs) H) :
    codeAny (model P w) A (.call (.ref f) args) (CR CX0 outer P w H s Q E) s := by
  obtain ⟨oc, od, kV, doc, pm, an, cdv, ct, osl, rfl, lk, hcd⟩ := F.ex
  have keep0 : ∀ b o, base.get? b = some o → s.heap.get? b = some o := fun b o e => (e0.bs b o e).1
  have KX := e0.mod.kin.keeps keep0
  refine codeAny_call_function (Room.depth hr) (KX _ _ lk) rfl S.co S.gen rfl (PySem.W.codeRec_of KX hcd) (hb _ _ _ _ ?_)
  have kinds : ∀ y ∈ ps.zip us, (defScope st).names.lookup y.1 = some .local ∨ ((defScope st).names.lookup y.1 = some .cell ∧ ((cellsFrom (s.heap.objs.size + 1) (defScope st).names []).lookup y.1).isSome = true) := by
    intro y hy
    obtain ⟨n, v⟩ := y
    exact (S.par n (List.of_mem_zip hy).1).elim Or.inl fun q => Or.inr ⟨q, PySem.W.cellsFrom_some _ _ _ (.inl q)⟩
  refine wpAny_newFunctionEnv_cells S.kind kinds ?_
  rintro env rfl s1 ic
  obtain ⟨t, ht, hq⟩ := hbody cdv
  refine ⟨(e0.mod.nolimit.keeps keep0).keeps ic.toInCall.keep, codeAny_func (wpAny_mono (ht.nox.run [] s1 (start N vs) H _ (inv_start S hr.hd e0 hl r ic) hq) ?_ (fun _ _ z => z))⟩
  intro fl s' hs
  cases fl with
  | ret u =>
    obtain ⟨v, σ', H', J, rv, q⟩ := hs
    exact ⟨v, H', J.os, J.bare, J.base, J.hok, rv, q⟩
  | next =>
    obtain ⟨σ', H', J, q⟩ := hs
    exact ⟨V.non, H', J.os, J.bare, J.base, J.hok, rfl, q⟩
  | brk => exact hs.elim fun _ z => z.elim fun _ z => z.2.elim
  | cont => exact hs.elim fun _ z => z.elim fun _ z => z.2.elim

/-! ### the law's own call -/
theorem env_at {P : Program} {w : World} {K : PySem.W.Frag} {mg mb : Str → Option Value} {a : Addr} {s1 : Shared} {vs : List Value} {H : Hp}
    (KX : K.In s1.heap) (hns : s1.heap.Ns mainGlobals mg) (hb : s1.heap.Ns builtinsNs mb) (hbb : ∀ x : Str, x ≠ "__name__" → mb x = bootBuiltins x) (hlim : s1.heap.NoLimit) (hg : s1.gens = #[])
    (ha : s1.heap.get? a = some { cls := .type "list", data := .seq vs.toArray }) (one : ∀ b u, H b = some u → b = a) (out : ∀ o, K.lookup a = some o → H a = none) (ok : HOk P w H s1.heap) :
    Env0 P w K mg (hidT s1.heap H) callerA [] s1 H := by
  have dicts : ∀ {b : Addr} {m : Str → Option Value}, s1.heap.Ns b m → (hidT s1.heap H).Ns b m := by
    rintro b m ⟨o, es, ep, e, d, r⟩
    refine ⟨o, es, ep, hidT_get e ?_, d, r⟩
    match q : H b with
    | none => rfl
    | some u =>
      obtain rfl := one b u q
      have e2 := Option.some.inj (e.symm.trans ha)
      rw [e2] at d
      cases d
  have kin : K.In (hidT s1.heap H) := by
    intro b o e
    refine hidT_get (KX b o e) ?_
    match q : H b with
    | none => rfl
    | some u =>
      obtain rfl := one b u q
      exact q.symm.trans (out o e)
  obtain ⟨mc, l1, l2⟩ := hlim
  exact ⟨rfl, ⟨kin, dicts hns, ⟨mb, dicts hb, hbb⟩, ⟨mc, dicts l1, l2⟩⟩, fun b o e => of_hidT e, Nat.le_of_eq (hidT_size _ _), trivial, (fun b z => nomatch z), ok, .of_eq hg⟩

theorem law_end {P : Program} {w : World} {K : PySem.W.Frag} {mg mb : Str → Option Value} {fa a : Addr} {s1 : Shared} {vs : List Value} {ns : List Int}
    (KX : K.In s1.heap) (hns : s1.heap.Ns mainGlobals mg) (hb : s1.heap.Ns builtinsNs mb) (hbb : ∀ x : Str, x ≠ "__name__" → mb x = bootBuiltins x) (hlim : s1.heap.NoLimit) (hg : s1.gens = #[])
    (ha : s1.heap.get? a = some { cls := .type "list", data := .seq vs.toArray }) (hi : IntsAre vs ns) (hl : ns.length ≤ sizeLine)
    (run : ∀ (base : Heap) (H : Hp), Env0 P w K mg base callerA [] s1 H → SqL K H a (ns.map V.int) →
      codeAny (model P w) callerA (.call (.ref fa) ⟨[.ref a], []⟩) (CR CX0 [] P w H s1 (fun v _ => v = .bl true) E0) s1) :
    codeAny (model P w) callerA (.call (.ref fa) ⟨[.ref a], []⟩) (fun r s' => r = .ok (.ret (.bool true)) ∧ OldK s1.heap s'.heap ∧ s'.os = s1.os ∧ AllBare s'.gens) s1 := by
  have rv := vals_ints hi
  have fin : ∀ H : Hp, HOk P w H s1.heap → (∀ b u, H b = some u → ∃ o xs, u = .frz o (.lst xs)) → ∀ r s', CR CX0 [] P w H s1 (fun v _ => v = .bl true) E0 r s' →
      r = .ok (.ret (.bool true)) ∧ OldK s1.heap s'.heap ∧ s'.os = s1.os ∧ AllBare s'.gens := by
    intro H ok hf r s' h
    match r, h with
    | .ok (.ret u), ⟨v, H', os, bare, un, ok2, rel, q⟩ =>
      obtain rfl : v = .bl true := q
      obtain rfl : u = Value.bool true := rel
      refine ⟨rfl, OldK.of_keep ?_, os, bare⟩
      intro b o e
      match qb : H b with
      | none => exact un.keep b o e qb (fun z => nomatch z) (fun z => nomatch z)
      | some ho =>
        obtain ⟨o2, xs, rfl⟩ := hf b ho qb
        have k1 := (ok b _ qb).1
        have k2 := (ok2 b _ (un.frzs b o2 _ qb)).1
        rw [e] at k1
        cases k1
        exact k2
  match hk : K.lookup a with
  | some o =>
    have e := (KX a o hk).symm.trans ha
    obtain rfl := Option.some.inj e
    have ok : HOk P w (fun _ => none) s1.heap := fun b u z => nomatch z
    refine codeAny_mono (run _ (fun _ => none) (env_at KX hns hb hbb hlim hg ha (fun b u z => nomatch z) (fun _ _ => rfl) ok) ?_) (fin _ ok fun b u z => nomatch z)
    exact .inr ⟨_, vs.toArray, _, hk, rfl, rfl, rfl, by rw [List.size_toArray, hi.length]; exact hl, by simpa using rv⟩
  | none =>
    let o : Obj := { cls := .type "list", data := .seq vs.toArray }
    have at_ : ∀ b u, (if b = a then some (HO.frz o (.lst (ns.map V.int))) else none) = some u → b = a ∧ u = HO.frz o (.lst (ns.map V.int)) := by
      intro b u z
      by_cases hb : b = a
      · rw [if_pos hb] at z
        exact ⟨hb, (Option.some.inj z).symm⟩
      · rw [if_neg hb] at z
        cases z
    have ok : HOk P w (fun b => if b = a then some (HO.frz o (.lst (ns.map V.int))) else none) s1.heap := by
      intro b u z
      obtain ⟨rfl, rfl⟩ := at_ b u z
      exact ⟨ha, by rw [List.length_map]; exact hl, vs, _, rv, ha⟩
    refine codeAny_mono (run _ _ (env_at KX hns hb hbb hlim hg ha (fun b u z => (at_ b u z).1) (fun o' e => absurd (hk.symm.trans e) (fun z => nomatch z)) ok) ?_) (fin _ ok fun b u z => ⟨_, _, (at_ b u z).2⟩)
    exact .inl (.inr ⟨o, if_pos rfl⟩)

theorem walkG {l : PySem.W.OpenLaw} {n : Nat} {q : Program} {loose : List Str} {XP : (Str → Option Value) → Heap → Prop} {YP : World → Heap → Prop} {d : DefRec} {K : Params → PySem.W.Frag}
    (hn : l.most = some n) (hn2 : n ≤ sizeLine) (hdf : d.params.defaults = []) (hY : ∀ (w : World) (h : Heap), YP w h → (K w.params).In h)
    (F : ∀ (w : World) (mg : Str → Option Value) (fa : Addr) (h : Heap), (K w.params).In h → h.Ns mainGlobals mg → mg d.name = some (.ref fa) →
      ∀ (s : Shared) (a : Addr) (ns : List Int) (base : Heap) (H : Hp), ns.length ≤ n → (∀ z ∈ ns, Builtin.Int.intBits z ≤ 1048576) → Env0 l.prog w (K w.params) mg base callerA [] s H → SqL (K w.params) H a (ns.map V.int) →
        codeAny (model l.prog w) callerA (.call (.ref fa) ⟨[.ref a], []⟩) (CR CX0 [] l.prog w H s (fun v _ => v = .bl true) E0) s) :
    PySem.W.WalkO q loose XP YP l.row.toRowW d [] (fun f vs => PySem.call f vs) := by
  apply Att.attach_callB hn hdf
  intro w s0 s1 mg mb fa o pm cd doc a vs ns G Y ho hd hcd hmg hobj hints hlen hbits hg
  have KX := hY w _ Y
  exact law_end KX G.T.g G.T.b G.T.builtins G.T.nolimit hg hobj hints (Nat.le_trans hlen hn2) fun base H e0 hS => F w mg fa _ KX G.T.g hmg s1 a ns base H hlen hbits e0 hS

/-! ### repr of data -/
section
variable {X : Cx}
/-- what a value reads, whatever the state -/
def Rz (X : Cx) (H : Hp) (v : V) (d : PyData) : Prop := ∀ pins σ s u, Inv X pins σ H s → RelV v u → ∃ as, Reads s.heap u d as ∧ sysModules ∉ as
def rRepr (X : Cx) : List V → Hp → VK → Prop := fun xs H Q => ∃ (x : V) (d : PyData), xs = [x] ∧ (Rz X H x d ∨ (Dp X.K H x d ∧ d.hasDict = false)) ∧ d.showable = true ∧ d.depth ≤ 40 ∧ d.shown.length ≤ sizeLine ∧ Q (.str d.shown) H
theorem call_repr (hg : X.A.guards = some []) (hu : X.A.units + 64 < cLine) : CallR X (.builtin "repr") (rRepr X) := by
  intro pins s σ H xs us Q I r h
  obtain ⟨x, d, rfl, hd, hs, hp, hz, q⟩ := h
  match us, r with
  | [u], .cons rx .nil =>
    have rd : ∃ as, Reads s.heap u d as ∧ (d.hasDict = true → sysModules ∉ as) := by
      rcases hd with hd | ⟨hd, hn⟩
      · obtain ⟨as, h1, h2⟩ := hd pins σ s u I rx
        exact ⟨as, h1, fun _ => h2⟩
      · obtain ⟨as, h1⟩ := Dp.reads I d x u hd rx
        exact ⟨as, h1, fun z => by rw [hn] at z; cases z⟩
    obtain ⟨as, h1, h2⟩ := rd
    cases h1 with
    | none => exact PySem.P.repr_of_none ⟨.str _, H, I.tok _, ⟨_, rfl⟩, q⟩
    | bool b => exact PySem.P.repr_of_bool ⟨.str _, H, I.tok _, ⟨_, rfl⟩, by have q' := q; simp only [PyData.shown] at q'; cases b <;> exact q'⟩
    | int i t => exact PySem.P.repr_of_int (by simpa [PyData.showable] using hs) ⟨.str _, H, I.tok _, ⟨_, rfl⟩, by simpa only [PyData.shown] using q⟩
    | str x t => exact PySem.P.repr_of_str ⟨.str _, H, I.tok _, ⟨_, rfl⟩, by simpa only [PyData.shown] using q⟩ (by simpa only [PyData.shown] using hz)
    | list a b c e => exact repr_of_reads' (Reads.list a b c e) hs h2 hg (by omega) (fun _ _ e => e) (fun h' u tk k => ⟨.str _, H, I.kept k, ⟨_, rfl⟩, q⟩) hz
    | tuple a b c e => exact repr_of_reads' (Reads.tuple a b c e) hs h2 hg (by omega) (fun _ _ e => e) (fun h' u tk k => ⟨.str _, H, I.kept k, ⟨_, rfl⟩, q⟩) hz
    | dict a b c e f => exact repr_of_reads' (Reads.dict a b c e f) hs h2 hg (by omega) (fun _ _ e => e) (fun h' u tk k => ⟨.str _, H, I.kept k, ⟨_, rfl⟩, q⟩) hz

theorem Rz.int (H : Hp) (i : Int) : Rz X H (.int i) (.int i) := by
  rintro pins σ s u I ⟨t, rfl⟩
  exact ⟨_, Reads.int i t, (fun z => nomatch z)⟩
theorem Rz.str (H : Hp) (x : Str) : Rz X H (.str x) (.str x) := by
  rintro pins σ s u I ⟨t, rfl⟩
  exact ⟨_, Reads.str x t, (fun z => nomatch z)⟩
theorem rz_all {H : Hp} : ∀ {vs : List V} {ds : List PyData}, Paired (Rz X H) vs ds → ∀ {pins σ s us}, Inv X pins σ H s → Vals vs us → ∃ as, ReadsAll s.heap us ds as ∧ sysModules ∉ as
  | _, _, .nil, _, _, _, _, _, .nil => ⟨_, ReadsAll.nil, (fun z => nomatch z)⟩
  | _, _, .cons h t, _, _, _, _, I, .cons r rs => by
    obtain ⟨as, a1, a2⟩ := h _ _ _ _ I r
    obtain ⟨bs, b1, b2⟩ := rz_all t I rs
    exact ⟨_, ReadsAll.cons a1 b1, fun z => (List.mem_append.mp z).elim a2 b2⟩
theorem Rz.tup {H : Hp} {a : Addr} {xs : List V} {ds : List PyData} (h : SqT X.K H a xs) (hs : Paired (Rz X H) xs ds) : Rz X H (.ref a) (.tuple ds) := by
  intro pins σ s u I r
  obtain rfl : u = Value.ref a := r
  obtain ⟨its, rv, ⟨o, ho, hc, n, hd⟩, _⟩ := I.tuple h
  obtain ⟨as, h1, h2⟩ := rz_all hs I rv
  exact ⟨_, Reads.tuple ho hc hd h1, h2⟩
end
end AW
namespace AW
open PySem PySem.Spec PyProof.Rows L2
section
variable {X : Cx}
def CPowW (i j : Int) : Prop := 0 ≤ j ∧ (Builtin.Int.intBits i : Int) * j ≤ 2 ^ 27
theorem op_powW : OpR X (binaryOp .Pow) (rI CPowW fun i j => .int (i ^ j.toNat)) := opI fun _ _ _ _ _ _ _ hc q => pow_int hc.1 hc.2 q
end
theorem bits_lt {z : Int} {n : Nat} (h : Builtin.Int.intBits z ≤ n) : z.natAbs < 2 ^ n := by
  unfold Builtin.Int.intBits at h
  by_cases e : z = 0
  · subst e
    exact Nat.pos_of_ne_zero (by simp)
  · rw [if_neg (by simpa using e)] at h
    have : z.natAbs ≠ 0 := by omega
    exact (Nat.log2_lt this).mp (by omega)
theorem seed_ok {z c : Int} (h0 : 0 ≤ z) (h1 : z ≤ 2147483629) (h2 : Builtin.Int.intBits c ≤ 1048576) : CPowW (z * 50021 + c) 3 := by
  refine ⟨by decide, ?_⟩
  have hc := bits_lt h2
  have h3 : (z * 50021 + c).natAbs < 2 ^ 1048577 := by
    have a : (z * 50021 + c).natAbs ≤ (z * 50021).natAbs + c.natAbs := Int.natAbs_add_le _ _
    have b : (z * 50021).natAbs ≤ 2 ^ 48 := by omega
    have d : (2 : Nat) ^ 48 ≤ 2 ^ 1048576 := Nat.pow_le_pow_right (by decide) (by decide)
    have e : (2 : Nat) ^ 1048577 = 2 ^ 1048576 + 2 ^ 1048576 := by rw [Nat.pow_succ]; omega
    omega
  have h4 := PyProof.Rows.intBits_le h3
  have e : (2 : Int) ^ 27 = 134217728 := by decide
  rw [e]
  omega
/-! ### what follows an if, shown once -/
def tMid (t u : TS) : TS := fun D σ H => ∃ M : L2.St → Hp → Prop, t { D with nx := M } σ H ∧ ∀ σ2 H2, M σ2 H2 → u D σ2 H2
theorem pss_mid {X : Cx} {st : Stmt} {r : List Stmt} {t u : TS} (a : PS X st t) (b : PSs X r u) : PSs X (st :: r) (tMid t u) := by
  constructor
  rintro pins s σ H D I ⟨M, h1, h2⟩
  apply wpAny_execs_cons
  refine thn (a.run pins s σ H _ I h1) ?_
  intro fl s2 z
  match fl, z with
  | .next, ⟨σ2, H2, I2, m⟩ => exact b.run pins s2 σ2 H2 D I2 (h2 σ2 H2 m)
  | .ret _, z => exact z
  | .brk, z => exact z
  | .cont, z => exact z
/-! ### the well -/
def WL (H : Hp) (a c : Addr) : Prop := a ≠ c ∧ ∃ (cs : List Int) (r s : Int), H a = some (.lst [.ref c, .int r, .int s]) ∧ H c = some (.lst (cs.map V.int))
/-- all but the well stands as it stood -/
def Kp (a c : Addr) (H H' : Hp) : Prop := ∀ b o, b ≠ a → b ≠ c → H b = some o → H' b = some o
theorem Kp.refl (a c : Addr) (H : Hp) : Kp a c H H := fun _ _ _ _ h => h
theorem Kp.trans {a c : Addr} {H H1 H2 : Hp} (h : Kp a c H H1) (k : Kp a c H1 H2) : Kp a c H H2 := fun b o n1 n2 e => k b o n1 n2 (h b o n1 n2 e)
theorem Kp.tup {a c : Addr} {H H' : Hp} (w : WL H a c) (k : Kp a c H H') {b : Addr} {xs : List V} (h : H b = some (.tup xs)) : H' b = some (.tup xs) := by
  obtain ⟨_, cs, r, s, e1, e2⟩ := w
  exact k b _ (ne_of h e1 (fun z => nomatch z)) (ne_of h e2 (fun z => nomatch z)) h
theorem Kp.same {a c : Addr} {H H1 H2 : Hp} (ha : H a = none) (hc : H c = none) (s : Same H H1) (k : Kp a c H1 H2) : Same H H2 := fun b o e => k b o (ne_of_none e ha) (ne_of_none e hc) (s b o e)
theorem same_new {H : Hp} {p : Addr} {o : HO} (h : H p = none) : Same H (upd H p o) := fun b x e => by
  rw [upd_ne (ne_of_none e h)]
  exact e
theorem WL.same {H H' : Hp} {a c : Addr} (w : WL H a c) (k : Same H H') : WL H' a c := by
  obtain ⟨n, cs, r, s, e1, e2⟩ := w
  exact ⟨n, cs, r, s, k _ _ e1, k _ _ e2⟩
theorem WL.ne_new {H : Hp} {a c p : Addr} (w : WL H a c) (h : H p = none) : p ≠ a ∧ p ≠ c := by
  obtain ⟨n, cs, r, s, e1, e2⟩ := w
  exact ⟨(ne_of_none e1 h).symm, (ne_of_none e2 h).symm⟩
theorem WL.upd {H : Hp} {a c p : Addr} {o : HO} (w : WL H a c) (h1 : p ≠ a) (h2 : p ≠ c) : WL (upd H p o) a c := by
  obtain ⟨n, cs, r, s, e1, e2⟩ := w
  exact ⟨n, cs, r, s, by rw [upd_ne h1.symm]; exact e1, by rw [upd_ne h2.symm]; exact e2⟩
theorem Same.kp {a c : Addr} {H H' : Hp} (s : Same H H') : Kp a c H H' := fun b o _ _ e => s b o e
theorem dp_ints {K : PySem.W.Frag} {H : Hp} : ∀ cs : List Int, DpAll K H (cs.map V.int) (cs.map PyData.int)
  | [] => .nil
  | c :: cs => .cons (.int c) (dp_ints cs)
theorem lay_ints : ∀ cs : List Int, PyData.canLayAll0 (cs.map PyData.int) = true ∧ PyData.depthAll (cs.map PyData.int) = 0
  | [] => ⟨by simp only [List.map_nil, PyData.canLayAll0], by simp only [List.map_nil, PyData.depthAll]⟩
  | c :: cs => by
    obtain ⟨h1, h2⟩ := lay_ints cs
    exact ⟨by simp only [List.map_cons, PyData.canLayAll0, PyData.canLay0, h1, Bool.and_self], by simp only [List.map_cons, PyData.depthAll, PyData.depth, h2, Nat.max_self]⟩
theorem shaped_ints (cs : List Int) : SeqAt.shaped (.list (cs.map PyData.int)) = true := by
  obtain ⟨h1, h2⟩ := lay_ints cs
  simp only [SeqAt.shaped, PyData.canLay0, PyData.depth, h1, h2, Bool.true_and]
  decide
theorem dp_strs {K : PySem.W.Frag} {H : Hp} : ∀ cs : List Str, DpAll K H (cs.map V.str) (cs.map PyData.str)
  | [] => .nil
  | c :: cs => .cons (.str c) (dp_strs cs)
theorem lay_strs : ∀ cs : List Str, (∀ x ∈ cs, PyData.strOk x = true) → PyData.canLayAll0 (cs.map PyData.str) = true ∧ PyData.depthAll (cs.map PyData.str) = 0
  | [], _ => ⟨by simp only [List.map_nil, PyData.canLayAll0], by simp only [List.map_nil, PyData.depthAll]⟩
  | c :: cs, h => by
    obtain ⟨h1, h2⟩ := lay_strs cs fun x hx => h x (List.mem_cons_of_mem _ hx)
    exact ⟨by simp only [List.map_cons, PyData.canLayAll0, PyData.canLay0, h1, h c List.mem_cons_self, Bool.and_self], by simp only [List.map_cons, PyData.depthAll, PyData.depth, h2, Nat.max_self]⟩
theorem shaped_strs (cs : List Str) (h : ∀ x ∈ cs, PyData.strOk x = true) : SeqAt.shaped (.list (cs.map PyData.str)) = true := by
  obtain ⟨h1, h2⟩ := lay_strs cs h
  simp only [SeqAt.shaped, PyData.canLay0, PyData.depth, h1, h2, Bool.true_and]
  decide
theorem seq0 (n : Nat) : seqIndex? 0 (n + 1) = some 0 := by
  unfold seqIndex?
  simp
/-! ### the words of deeds, deeds, rows -/
def fwL : List (Str × Int) := [("none", 0), ("one", 0), ("all", 0), ("not", 1), ("neg", 1), ("twice", 1), ("and", 2), ("or", 2), ("xor", 2), ("add", 2), ("sub", 2)]
theorem fw_ok : ∀ x ∈ fwL.map (·.1), PyData.strOk x = true := by decide +kernel
def fwK : List (Key × V) := fwL.map fun p => (Sum.inr p.1, .int p.2)
/-- a deed: its word and its numbers -/
abbrev Deed := Str × List Int
def dV (d : Deed) : List V := .str d.1 :: d.2.map V.int
theorem dv0 (d : Deed) : atI (dV d) 0 = some (.str d.1) := atI_nat (j := 0) rfl
theorem dvN {d : Deed} {k : Nat} {i : Int} (h : d.2[k]? = some i) : atI (dV d) ((k + 1 : Nat) : Int) = some (.int i) := atI_nat (by show (d.2.map V.int)[k]? = _; rw [List.getElem?_map, h]; rfl)
structure DeedOk (m : Int) (d : Deed) : Prop where
  word : (d.1, (d.2.length : Int)) ∈ fwL
  ahead : ∀ i ∈ d.2, 0 ≤ i ∧ i < m
theorem fw_at {z : Int} (h0 : 0 ≤ z) (h1 : z < 11) : ∃ x n, (x, n) ∈ fwL ∧ 0 ≤ n ∧ n ≤ 2 ∧ atI (fwK.map fun kv => kV kv.1) z = some (.str x) ∧ valV fwK (Sum.inr x) = some (.int n) := by
  obtain ⟨k, rfl⟩ := Int.eq_ofNat_of_zero_le h0
  have hk : k = 0 ∨ k = 1 ∨ k = 2 ∨ k = 3 ∨ k = 4 ∨ k = 5 ∨ k = 6 ∨ k = 7 ∨ k = 8 ∨ k = 9 ∨ k = 10 := by omega
  rcases hk with rfl | rfl | rfl | rfl | rfl | rfl | rfl | rfl | rfl | rfl | rfl
  · exact ⟨"none", 0, by decide +kernel, by decide, by decide, by decide +kernel, by decide +kernel⟩
  · exact ⟨"one", 0, by decide +kernel, by decide, by decide, by decide +kernel, by decide +kernel⟩
  · exact ⟨"all", 0, by decide +kernel, by decide, by decide, by decide +kernel, by decide +kernel⟩
  · exact ⟨"not", 1, by decide +kernel, by decide, by decide, by decide +kernel, by decide +kernel⟩
  · exact ⟨"neg", 1, by decide +kernel, by decide, by decide, by decide +kernel, by decide +kernel⟩
  · exact ⟨"twice", 1, by decide +kernel, by decide, by decide, by decide +kernel, by decide +kernel⟩
  · exact ⟨"and", 2, by decide +kernel, by decide, by decide, by decide +kernel, by decide +kernel⟩
  · exact ⟨"or", 2, by decide +kernel, by decide, by decide, by decide +kernel, by decide +kernel⟩
  · exact ⟨"xor", 2, by decide +kernel, by decide, by decide, by decide +kernel, by decide +kernel⟩
  · exact ⟨"add", 2, by decide +kernel, by decide, by decide, by decide +kernel, by decide +kernel⟩
  · exact ⟨"sub", 2, by decide +kernel, by decide, by decide, by decide +kernel, by decide +kernel⟩
theorem awSnoc {α β : Type} {F : α → β → Prop} {x : α} {y : β} (h : F x y) : ∀ {l : List α} {l2 : List β}, Paired F l l2 → Paired F (l ++ [x]) (l2 ++ [y])
  | _, _, .nil => .cons h .nil
  | _, _, .cons r t => .cons r (awSnoc h t)
theorem awMap {α β : Type} {F G : α → β → Prop} (f : ∀ a b, F a b → G a b) : ∀ {l : List α} {l2 : List β}, Paired F l l2 → Paired G l l2
  | _, _, .nil => .nil
  | _, _, .cons r t => .cons (f _ _ r) (awMap f t)
theorem awLen {α β : Type} {F : α → β → Prop} : ∀ {l : List α} {l2 : List β}, Paired F l l2 → l.length = l2.length
  | _, _, .nil => rfl
  | _, _, .cons _ t => congrArg (· + 1) (awLen t)
theorem awGet {α β : Type} {F : α → β → Prop} : ∀ {l : List α} {l2 : List β} {i : Nat} {x : α}, Paired F l l2 → l[i]? = some x → ∃ y, l2[i]? = some y ∧ F x y
  | _, _, _, _, .nil, e => by simp at e
  | _, _, 0, _, .cons r _, e => by
    simp only [List.getElem?_cons_zero, Option.some.injEq] at e
    subst e
    exact ⟨_, rfl, r⟩
  | _, _, i + 1, x, .cons _ t, e => by
    simp only [List.getElem?_cons_succ] at e ⊢
    exact awGet t e
theorem awGet2 {α β : Type} {F : α → β → Prop} {l : List α} {l2 : List β} {i : Nat} {y : β} (h : Paired F l l2) (e : l2[i]? = some y) : ∃ x, l[i]? = some x ∧ F x y := by
  have hi : i < l.length := by
    rw [awLen h]
    exact (List.getElem?_eq_some_iff.mp e).1
  obtain ⟨y2, e2, f⟩ := awGet h (List.getElem?_eq_getElem hi)
  rw [e] at e2
  obtain rfl := Option.some.inj e2
  exact ⟨_, List.getElem?_eq_getElem hi, f⟩
/-- deeds that stand in the heap as tuples -/
abbrev DsAt (H : Hp) : List Addr → List Deed → Prop := Paired fun r d => H r = some (.tup (dV d))
def RowAt (H : Hp) (R : Addr) (m : Int) (ds : List Deed) (o : Int) : Prop := ∃ D rs, H R = some (.tup [.int m, .ref D, .int o]) ∧ H D = some (.tup (rs.map V.ref)) ∧ DsAt H rs ds
structure DsOk (m : Int) (ds : List Deed) : Prop where
  each : ∀ (k : Nat) d, ds[k]? = some d → DeedOk (m + k) d
structure RowOk (m : Int) (ds : List Deed) (o : Int) : Prop where
  m1 : 1 ≤ m
  m3 : m ≤ 3
  len : ds.length ≤ 8
  deeds : DsOk m ds
  o0 : 0 ≤ o
  o1 : o < m + ds.length
/-- all tuples stand -/
def TupsStay (H H' : Hp) : Prop := ∀ b xs, H b = some (.tup xs) → H' b = some (.tup xs)
theorem Same.tups {H H' : Hp} (s : Same H H') : TupsStay H H' := fun b xs e => s b _ e
theorem Kp.tups {a c : Addr} {H H' : Hp} (k : Kp a c H H') (w : WL H a c) : TupsStay H H' := fun b xs e => k.tup w e
theorem TupsStay.trans {H H1 H2 : Hp} (a : TupsStay H H1) (b : TupsStay H1 H2) : TupsStay H H2 := fun c xs e => b c xs (a c xs e)
theorem tups_put {H : Hp} {l : Addr} {xs : List V} {o : HO} (h : H l = some (.lst xs)) : TupsStay H (upd H l o) := fun b ys e => by
  rw [upd_ne (ne_of e h (fun z => nomatch z))]
  exact e
theorem TupsStay.ds {H H' : Hp} (t : TupsStay H H') {rs : List Addr} {ds : List Deed} (h : DsAt H rs ds) : DsAt H' rs ds := awMap (fun r d e => t r _ e) h
theorem TupsStay.row {H H' : Hp} (t : TupsStay H H') {R : Addr} {m o : Int} {ds : List Deed} (h : RowAt H R m ds o) : RowAt H' R m ds o := by
  obtain ⟨D, rs, e1, e2, e3⟩ := h
  exact ⟨D, rs, t _ _ e1, t _ _ e2, t.ds e3⟩
theorem dsOk_snoc {m : Int} {ds : List Deed} {d : Deed} (h : DsOk m ds) (k : DeedOk (m + ds.length) d) : DsOk m (ds ++ [d]) := by
  constructor
  intro i d' e
  by_cases hi : i < ds.length
  · rw [List.getElem?_append_left hi] at e
    exact h.each i d' e
  · rw [List.getElem?_append_right (by omega)] at e
    obtain ⟨h1, h2⟩ := List.getElem?_eq_some_iff.mp e
    have h3 : i = ds.length := by simp only [List.length_cons, List.length_nil] at h1; omega
    subst h3
    simp at h2
    subst h2
    exact k
/-! ### data that is shown in few signs -/
structure Nice (b k : Nat) (d : PyData) : Prop where
  sh : d.showable = true
  lv : d.leavesShort 21 = true
  bk : d.bulk ≤ b
  dp : d.depth ≤ k
theorem Nice.fits {b k : Nat} {d : PyData} (h : Nice b k d) (hb : b ≤ 100000) : d.shown.length ≤ sizeLine := by
  have h1 := PyData.shown_le_bulk 21 (by decide) d h.lv
  have h2 := h.bk
  rw [sizeLine_eq]
  omega
theorem Nice.mono {b b2 k k2 : Nat} {d : PyData} (h : Nice b k d) (hb : b ≤ b2) (hk : k ≤ k2) : Nice b2 k2 d := ⟨h.sh, h.lv, Nat.le_trans h.bk hb, Nat.le_trans h.dp hk⟩
theorem nice_int {i : Int} (h : i.natAbs < 10 ^ 20) : Nice 0 0 (.int i) := by
  refine ⟨?_, ?_, ?_, ?_⟩
  · simp only [PyData.showable, decide_eq_true_eq]
    have : i.natAbs < 2 ^ 70 := Nat.lt_trans h (by decide)
    by_cases e : i.natAbs = 0
    · rw [e]; decide
    · have := (Nat.log2_lt e).mpr this
      omega
  · simp only [PyData.leavesShort, decide_eq_true_eq]
    have e := int_text_length_le10 (k := 20) (by decide) h
    simp only [PyData.shown]
    rw [PySem.ofString_length]
    exact e
  · simp only [PyData.bulk, Nat.le_refl]
  · simp only [PyData.depth, Nat.le_refl]
theorem nice_str {x : Str} {n : Nat} (h : x.cps.size ≤ n) (hx : (x.cps.toList.all fun c => decide (c < 16 ^ 8)) = true) : Nice n 0 (.str x) := by
  refine ⟨?_, ?_, ?_, ?_⟩
  · simp only [PyData.showable]
  · simp only [PyData.leavesShort]
    exact hx
  · simp only [PyData.bulk]
    exact h
  · simp only [PyData.depth, Nat.le_refl]
theorem nice_all {b k : Nat} : ∀ {xs : List PyData}, (∀ x ∈ xs, Nice b k x) → PyData.showableAll xs = true ∧ PyData.leavesShortAll 21 xs = true ∧ PyData.bulkAll xs ≤ xs.length * (b + 1) ∧ PyData.depthAll xs ≤ k
  | [], _ => ⟨by simp only [PyData.showableAll], by simp only [PyData.leavesShortAll], by simp only [PyData.bulkAll, Nat.zero_le], by simp only [PyData.depthAll, Nat.zero_le]⟩
  | x :: xs, h => by
    obtain ⟨h1, h2, h3, h4⟩ := nice_all fun y hy => h y (List.mem_cons_of_mem _ hy)
    obtain ⟨g1, g2, g3, g4⟩ := h x List.mem_cons_self
    refine ⟨by simp only [PyData.showableAll, g1, h1, Bool.and_self], by simp only [PyData.leavesShortAll, g2, h2, Bool.and_self], ?_, ?_⟩
    · simp only [PyData.bulkAll, List.length_cons, Nat.add_mul, Nat.one_mul]
      omega
    · simp only [PyData.depthAll]
      omega
theorem nice_tup {b k n : Nat} {xs : List PyData} (h : ∀ x ∈ xs, Nice b k x) (hn : xs.length * (b + 1) ≤ n) : Nice n (k + 1) (.tuple xs) := by
  obtain ⟨h1, h2, h3, h4⟩ := nice_all h
  exact ⟨by simpa only [PyData.showable] using h1, by simpa only [PyData.leavesShort] using h2, by simp only [PyData.bulk]; omega, by simp only [PyData.depth]; omega⟩
theorem nice_lst {b k n : Nat} {xs : List PyData} (h : ∀ x ∈ xs, Nice b k x) (hn : xs.length * (b + 1) ≤ n) : Nice n (k + 1) (.list xs) := by
  obtain ⟨h1, h2, h3, h4⟩ := nice_all h
  exact ⟨by simpa only [PyData.showable] using h1, by simpa only [PyData.leavesShort] using h2, by simp only [PyData.bulk]; omega, by simp only [PyData.depth]; omega⟩
def deedD (d : Deed) : PyData := .tuple (.str d.1 :: d.2.map PyData.int)
def rowD (m : Int) (ds : List Deed) (o : Int) : PyData := .tuple [.int m, .tuple (ds.map deedD), .int o]
theorem fw_short : ∀ p ∈ fwL, p.1.cps.size ≤ 5 ∧ (p.1.cps.toList.all fun c => decide (c < 16 ^ 8)) = true ∧ p.2 ≤ 2 := by decide +kernel
theorem nice_deed {m : Int} {d : Deed} (h : DeedOk m d) (hm : m ≤ 100) : Nice 18 1 (deedD d) := by
  obtain ⟨h1, h2, h3⟩ := fw_short _ h.word
  refine nice_tup (b := 5) (k := 0) (fun x hx => ?_) ?_
  · rcases List.mem_cons.mp hx with rfl | hx
    · exact nice_str h1 h2
    · obtain ⟨i, hi, rfl⟩ := List.mem_map.mp hx
      obtain ⟨i0, i1⟩ := h.ahead i hi
      exact (nice_int (by omega)).mono (by decide) (by decide)
  · rw [List.length_cons, List.length_map]
    have : (d.2.length : Int) ≤ 2 := h3
    omega
theorem nice_row {m o : Int} {ds : List Deed} (h : RowOk m ds o) : Nice 459 3 (rowD m ds o) := by
  have hm := h.m1
  have hm3 := h.m3
  have hl := h.len
  have ho := h.o0
  have ho1 := h.o1
  refine nice_tup (b := 152) (k := 2) (fun x hx => ?_) (by simp only [List.length_cons, List.length_nil]; decide)
  simp only [List.mem_cons, List.not_mem_nil, or_false] at hx
  rcases hx with rfl | rfl | rfl
  · exact (nice_int (by omega)).mono (by decide) (by decide)
  · refine nice_tup (b := 18) (k := 1) (fun x hx => ?_) ?_
    · obtain ⟨d, hd, rfl⟩ := List.mem_map.mp hx
      obtain ⟨k, hk⟩ := List.mem_iff_getElem?.mp hd
      have hk1 := (List.getElem?_eq_some_iff.mp hk).1
      exact nice_deed (h.deeds.each k d hk) (by omega)
    · rw [List.length_map]
      omega
  · exact (nice_int (by omega)).mono (by decide) (by decide)
/-! ### what the row reads -/
section
variable {X : Cx}
theorem rz_ints (H : Hp) : ∀ l : List Int, Paired (Rz X H) (l.map V.int) (l.map PyData.int)
  | [] => .nil
  | i :: l => .cons (Rz.int H i) (rz_ints H l)
theorem rz_deed {H : Hp} {r : Addr} {d : Deed} (h : H r = some (.tup (dV d))) : Rz X H (.ref r) (deedD d) := Rz.tup (SqT.of h) (.cons (Rz.str H _) (rz_ints H _))
theorem rz_deeds {H : Hp} : ∀ {rs : List Addr} {ds : List Deed}, DsAt H rs ds → Paired (Rz X H) (rs.map V.ref) (ds.map deedD)
  | _, _, .nil => .nil
  | _, _, .cons h t => .cons (rz_deed h) (rz_deeds t)
theorem rz_row {H : Hp} {R : Addr} {m o : Int} {ds : List Deed} (h : RowAt H R m ds o) : Rz X H (.ref R) (rowD m ds o) := by
  obtain ⟨D, rs, e1, e2, e3⟩ := h
  exact Rz.tup (SqT.of e1) (.cons (Rz.int H m) (.cons (Rz.tup (SqT.of e2) (rz_deeds e3)) (.cons (Rz.int H o) .nil)))
/-- a dict of texts and ints -/
abbrev siK (es : List (Str × Int)) : List (Key × V) := es.map fun p => (Sum.inr p.1, .int p.2)
theorem si_reads {prog : Program} {w : World} {h : Heap} : ∀ (es : List (Str × Int)) (vs : List (Key × Value)) (en : List DictEntry), KV (siK es) vs → Pairs (mixKind prog w) en vs →
    ReadsAll h (en.map (·.key)) ((es.map fun p => (PyData.str p.1, PyData.int p.2)).map (·.1)) [] ∧ ReadsAll h (en.map (·.val)) ((es.map fun p => (PyData.str p.1, PyData.int p.2)).map (·.2)) []
  | [], _, _, .nil, .nil => ⟨.nil, .nil⟩
  | (x, i) :: es, _, _, .cons hh t, .cons hk hv hp => by
    obtain ⟨h1, h2⟩ := si_reads es _ _ t hp
    obtain ⟨k1, t1, e1⟩ := hh
    rw [← k1] at hk
    obtain ⟨t2, e2⟩ := Value.isStrOf_shape (x := x) hk
    refine ⟨?_, ?_⟩
    · simp only [List.map_cons]
      rw [e2]
      exact ReadsAll.cons (as := []) (Reads.str x t2) h1
    · simp only [List.map_cons]
      rw [hv, e1]
      exact ReadsAll.cons (as := []) (Reads.int i t1) h2
theorem rz_dict {H : Hp} {C : Addr} {es : List (Str × Int)} (h : H C = some (.dK (siK es))) : Rz X H (.ref C) (.dict (es.map fun p => (PyData.str p.1, PyData.int p.2))) := by
  intro pins σ s u I r
  obtain rfl : u = Value.ref C := r
  obtain ⟨_, hs, vs, hkv, o, en, ep, e1, e2, e3, e4, e5, e6⟩ := I.hok C _ h
  obtain ⟨r1, r2⟩ := si_reads (prog := X.prog) (w := X.w) (h := s.heap) es vs _ hkv e5
  refine ⟨_, Reads.dict e1 e2.1 e3 r1 r2, ?_⟩
  intro z
  simp only [List.append_nil, List.mem_cons, List.not_mem_nil, or_false] at z
  rw [← z] at hs
  simp at hs
end
theorem nice_dict {n : Nat} : ∀ {es : List (Str × Int)}, (∀ p ∈ es, p.1.cps.size ≤ 5 ∧ (p.1.cps.toList.all fun c => decide (c < 16 ^ 8)) = true ∧ p.2.natAbs < 10 ^ 20) → es.length * 7 ≤ n →
    Nice n 1 (.dict (es.map fun p => (PyData.str p.1, PyData.int p.2))) := by
  intro es h hn
  have key : ∀ es : List (Str × Int), (∀ p ∈ es, p.1.cps.size ≤ 5 ∧ (p.1.cps.toList.all fun c => decide (c < 16 ^ 8)) = true ∧ p.2.natAbs < 10 ^ 20) →
      PyData.showableKv (es.map fun p => (PyData.str p.1, PyData.int p.2)) = true ∧ PyData.leavesShortKv 21 (es.map fun p => (PyData.str p.1, PyData.int p.2)) = true ∧ PyData.bulkKv (es.map fun p => (PyData.str p.1, PyData.int p.2)) ≤ es.length * 7 ∧ PyData.depthKv (es.map fun p => (PyData.str p.1, PyData.int p.2)) = 0 := by
    intro es
    induction es with
    | nil => intro _; exact ⟨by simp only [List.map_nil, PyData.showableKv], by simp only [List.map_nil, PyData.leavesShortKv], by simp only [List.map_nil, PyData.bulkKv, Nat.zero_le], by simp only [List.map_nil, PyData.depthKv]⟩
    | cons p es ih =>
      intro h
      obtain ⟨h1, h2, h3, h4⟩ := ih fun q hq => h q (List.mem_cons_of_mem _ hq)
      obtain ⟨a, b, c⟩ := h p List.mem_cons_self
      obtain ⟨i1, i2, i3, i4⟩ := nice_int c
      obtain ⟨s1, s2, s3, s4⟩ := nice_str a b
      refine ⟨by simp only [List.map_cons, PyData.showableKv, i1, s1, h1, Bool.and_self], by simp only [List.map_cons, PyData.leavesShortKv, i2, s2, h2, Bool.and_self], ?_, ?_⟩
      · simp only [List.map_cons, PyData.bulkKv, List.length_cons]
        omega
      · simp only [List.map_cons, PyData.depthKv]
        omega
  obtain ⟨h1, h2, h3, h4⟩ := key es h
  exact ⟨by simpa only [PyData.showable] using h1, by simpa only [PyData.leavesShort] using h2, by simp only [PyData.bulk]; omega, by simp only [PyData.depth]; omega⟩
/-! ### values of rows -/
theorem strEq {x y : Str} (h : decide (V.str x = V.str y) = true) : x = y := V.str.inj (of_decide_eq_true h)
theorem strNe {x y : Str} (h : ¬ decide (V.str x = V.str y) = true) : ¬ x = y := fun e => h (decide_eq_true (congrArg V.str e))
def argAt (d : Deed) (told : List Int) (k : Nat) : Int := told.getD (d.2.getD k 0).toNat 0
def dvalue (x : Str) (A B size : Int) : Int :=
  if x = "none" then 0 else if x = "one" then 1 else if x = "all" then size - 1 else if x = "not" then size - 1 - A else if x = "neg" then -A else if x = "twice" then A + A
  else if x = "and" then Builtin.bitAnd A B else if x = "or" then Builtin.bitOr A B else if x = "xor" then Builtin.bitXor A B else if x = "add" then A + B else A - B
def dval (size : Int) (d : Deed) (told : List Int) : Int := dvalue d.1 (argAt d told 0) (argAt d told 1) size % size
def vals (size : Int) : List Deed → List Int → List Int
  | [], told => told
  | d :: ds, told => vals size ds (told ++ [dval size d told])
theorem vals_append (size : Int) : ∀ (l1 l2 : List Deed) (t : List Int), vals size (l1 ++ l2) t = vals size l2 (vals size l1 t)
  | [], _, _ => rfl
  | d :: l1, l2, t => vals_append size l1 l2 (t ++ [dval size d t])
theorem vals_len {size : Int} : ∀ (ds : List Deed) (t : List Int), (vals size ds t).length = t.length + ds.length
  | [], _ => rfl
  | d :: ds, t => by
    show (vals size ds (t ++ [dval size d t])).length = _
    rw [vals_len ds, List.length_append, List.length_cons, List.length_cons, List.length_nil]
    omega
theorem vals_next {size : Int} {ds : List Deed} {i : Nat} {d : Deed} {t : List Int} (h : ds[i]? = some d) : vals size (ds.take (i + 1)) t = vals size (ds.take i) t ++ [dval size d (vals size (ds.take i) t)] := by
  rw [List.take_add_one, h, vals_append]
  rfl
theorem atI_ints {l : List Int} {o : Int} (h0 : 0 ≤ o) (h1 : o < l.length) : atI (l.map V.int) o = some (.int (l.getD o.toNat 0)) := by
  obtain ⟨k, rfl⟩ := Int.eq_ofNat_of_zero_le h0
  have hk : k < l.length := by omega
  apply atI_nat
  rw [List.getElem?_map, List.getElem?_eq_getElem hk, Int.toNat_natCast, List.getD_eq_getElem?_getD, List.getElem?_eq_getElem hk]
  rfl
theorem fw_one : ∀ p ∈ fwL, ¬ p.1 = "none" → ¬ p.1 = "one" → ¬ p.1 = "all" → 1 ≤ p.2 := by decide +kernel
theorem fw_two' : ∀ p ∈ fwL, (decide (p.1 ∈ (["none", "one", "all", "not", "neg", "twice"] : List Str)) || decide (2 ≤ p.2)) = true := by decide +kernel
theorem fw_two (p : Str × Int) (h : p ∈ fwL) (n1 : ¬ p.1 = "none") (n2 : ¬ p.1 = "one") (n3 : ¬ p.1 = "all") (n4 : ¬ p.1 = "not") (n5 : ¬ p.1 = "neg") (n6 : ¬ p.1 = "twice") : 2 ≤ p.2 := by
  have e := fw_two' p h
  rw [Bool.or_eq_true] at e
  rcases e with e | e
  · have e2 := of_decide_eq_true e
    simp only [List.mem_cons, List.not_mem_nil, or_false] at e2
    rcases e2 with e2 | e2 | e2 | e2 | e2 | e2
    · exact absurd e2 n1
    · exact absurd e2 n2
    · exact absurd e2 n3
    · exact absurd e2 n4
    · exact absurd e2 n5
    · exact absurd e2 n6
  · exact of_decide_eq_true e
theorem arg_of {d : Deed} {told : List Int} (h : DeedOk told.length d) {k : Nat} (hk : k < d.2.length) : ∃ i, d.2[k]? = some i ∧ 0 ≤ i ∧ atI (told.map V.int) i = some (.int (argAt d told k)) := by
  have hg := List.getElem?_eq_getElem hk
  obtain ⟨i0, i1⟩ := h.ahead _ (List.getElem_mem hk)
  refine ⟨d.2[k], hg, i0, ?_⟩
  rw [atI_ints i0 i1]
  unfold argAt
  rw [List.getD_eq_getElem?_getD (l := d.2), hg]
  rfl
theorem arg1 {d : Deed} {told : List Int} (h : DeedOk told.length d) (n1 : ¬ d.1 = "none") (n2 : ¬ d.1 = "one") (n3 : ¬ d.1 = "all") : ∃ i, d.2[0]? = some i ∧ 0 ≤ i ∧ atI (told.map V.int) i = some (.int (argAt d told 0)) :=
  arg_of h (by have := fw_one _ h.word n1 n2 n3; show 0 < d.2.length; have e : (1 : Int) ≤ (d.2.length : Int) := this; omega)
theorem arg2 {d : Deed} {told : List Int} (h : DeedOk told.length d) (n1 : ¬ d.1 = "none") (n2 : ¬ d.1 = "one") (n3 : ¬ d.1 = "all") (n4 : ¬ d.1 = "not") (n5 : ¬ d.1 = "neg") (n6 : ¬ d.1 = "twice") :
    ∃ i, d.2[1]? = some i ∧ 0 ≤ i ∧ atI (told.map V.int) i = some (.int (argAt d told 1)) :=
  arg_of h (by have := fw_two _ h.word n1 n2 n3 n4 n5 n6; show 1 < d.2.length; have e : (2 : Int) ≤ (d.2.length : Int) := this; omega)
/-! ### the low bits of values -/
theorem pw_cast (n : Nat) : (2 : Int) ^ n = ((2 ^ n : Nat) : Int) := (PySem.W.kbt_cast n).symm
theorem pw_le {n k : Nat} (h : n ≤ k) : (2 : Int) ^ n ≤ 2 ^ k := by
  rw [pw_cast, pw_cast]
  exact Int.ofNat_le.mpr (Nat.pow_le_pow_right (by decide) h)
theorem pw_pos (n : Nat) : (0 : Int) < 2 ^ n := Int.pow_pos (by decide)
theorem castMod (a n : Nat) : ((a : Int) % 2 ^ n) = ((a % 2 ^ n : Nat) : Int) := by rw [pw_cast, Int.natCast_emod]
theorem low_and {A B : Int} (n : Nat) (ha : 0 ≤ A) (hb : 0 ≤ B) : Builtin.bitAnd (A % 2 ^ n) (B % 2 ^ n) % 2 ^ n = Builtin.bitAnd A B % 2 ^ n := by
  obtain ⟨a, rfl⟩ := Int.eq_ofNat_of_zero_le ha
  obtain ⟨b, rfl⟩ := Int.eq_ofNat_of_zero_le hb
  rw [castMod, castMod, bitAnd_pp (Int.natCast_nonneg _) (Int.natCast_nonneg _), bitAnd_pp (Int.natCast_nonneg _) (Int.natCast_nonneg _), castMod, castMod]
  simp only [Int.toNat_natCast]
  rw [Nat.and_mod_two_pow, Nat.and_mod_two_pow, Nat.mod_mod, Nat.mod_mod]
theorem low_or {A B : Int} (n : Nat) (ha : 0 ≤ A) (hb : 0 ≤ B) : Builtin.bitOr (A % 2 ^ n) (B % 2 ^ n) % 2 ^ n = Builtin.bitOr A B % 2 ^ n := by
  obtain ⟨a, rfl⟩ := Int.eq_ofNat_of_zero_le ha
  obtain ⟨b, rfl⟩ := Int.eq_ofNat_of_zero_le hb
  rw [castMod, castMod, bitOr_nn (Int.natCast_nonneg _) (Int.natCast_nonneg _), bitOr_nn (Int.natCast_nonneg _) (Int.natCast_nonneg _), castMod, castMod]
  simp only [Int.toNat_natCast]
  rw [Nat.or_mod_two_pow, Nat.or_mod_two_pow, Nat.mod_mod, Nat.mod_mod]
theorem low_xor {A B : Int} (n : Nat) (ha : 0 ≤ A) (hb : 0 ≤ B) : Builtin.bitXor (A % 2 ^ n) (B % 2 ^ n) % 2 ^ n = Builtin.bitXor A B % 2 ^ n := by
  obtain ⟨a, rfl⟩ := Int.eq_ofNat_of_zero_le ha
  obtain ⟨b, rfl⟩ := Int.eq_ofNat_of_zero_le hb
  rw [castMod, castMod, Bits.bitXor_pp (Int.natCast_nonneg _) (Int.natCast_nonneg _), Bits.bitXor_pp (Int.natCast_nonneg _) (Int.natCast_nonneg _), castMod, castMod]
  simp only [Int.toNat_natCast]
  rw [Nat.xor_mod_two_pow, Nat.xor_mod_two_pow, Nat.mod_mod, Nat.mod_mod]
theorem pw_dvd {n k : Nat} (h : n ≤ k) : (2 : Int) ^ n ∣ 2 ^ k := ⟨2 ^ (k - n), by rw [← Int.pow_add]; congr 1; omega⟩
theorem emod_same {a b m : Int} (k : Int) (h : a - b = m * k) : a % m = b % m := Int.emod_eq_emod_iff_emod_sub_eq_zero.mpr (by rw [h]; exact Int.mul_emod_right m k)
theorem dvalue_low' {x : Str} {N c qa qb ra rb A B : Int} (ea : N * qa + ra = A) (eb : N * qb + rb = B) (l1 : Builtin.bitAnd ra rb % N = Builtin.bitAnd A B % N) (l2 : Builtin.bitOr ra rb % N = Builtin.bitOr A B % N)
    (l3 : Builtin.bitXor ra rb % N = Builtin.bitXor A B % N) : dvalue x ra rb N % N = dvalue x A B (N * c) % N := by
  unfold dvalue
  by_cases h1 : x = "none"
  · rw [if_pos h1, if_pos h1]
  rw [if_neg h1, if_neg h1]
  by_cases h2 : x = "one"
  · rw [if_pos h2, if_pos h2]
  rw [if_neg h2, if_neg h2]
  by_cases h3 : x = "all"
  · rw [if_pos h3, if_pos h3]
    exact emod_same (1 - c) (by rw [Int.mul_sub, Int.mul_one]; omega)
  rw [if_neg h3, if_neg h3]
  by_cases h4 : x = "not"
  · rw [if_pos h4, if_pos h4]
    exact emod_same (1 - c + qa) (by rw [Int.mul_add, Int.mul_sub, Int.mul_one]; omega)
  rw [if_neg h4, if_neg h4]
  by_cases h5 : x = "neg"
  · rw [if_pos h5, if_pos h5]
    exact emod_same qa (by omega)
  rw [if_neg h5, if_neg h5]
  by_cases h6 : x = "twice"
  · rw [if_pos h6, if_pos h6]
    exact emod_same (-qa - qa) (by rw [Int.mul_sub, Int.mul_neg]; omega)
  rw [if_neg h6, if_neg h6]
  by_cases h7 : x = "and"
  · rw [if_pos h7, if_pos h7]
    exact l1
  rw [if_neg h7, if_neg h7]
  by_cases h8 : x = "or"
  · rw [if_pos h8, if_pos h8]
    exact l2
  rw [if_neg h8, if_neg h8]
  by_cases h9 : x = "xor"
  · rw [if_pos h9, if_pos h9]
    exact l3
  rw [if_neg h9, if_neg h9]
  by_cases h10 : x = "add"
  · rw [if_pos h10, if_pos h10]
    exact emod_same (-qa - qb) (by rw [Int.mul_sub, Int.mul_neg]; omega)
  rw [if_neg h10, if_neg h10]
  exact emod_same (qb - qa) (by rw [Int.mul_sub]; omega)
theorem dvalue_low {x : Str} {A B : Int} {n k : Nat} (hA : 0 ≤ A) (hB : 0 ≤ B) (h : n ≤ k) : dvalue x (A % 2 ^ n) (B % 2 ^ n) (2 ^ n) % 2 ^ n = dvalue x A B (2 ^ k) % 2 ^ n := by
  obtain ⟨c, hc⟩ := pw_dvd h
  rw [hc]
  exact dvalue_low' (Int.mul_ediv_add_emod A (2 ^ n)) (Int.mul_ediv_add_emod B (2 ^ n)) (low_and n hA hB) (low_or n hA hB) (low_xor n hA hB)
theorem getD_low (N : Int) (l : List Int) (i : Nat) : (l.map (· % N)).getD i 0 = l.getD i 0 % N := by
  rw [List.getD_eq_getElem?_getD, List.getD_eq_getElem?_getD, List.getElem?_map]
  cases l[i]? with
  | none => exact (Int.zero_emod N).symm
  | some y => rfl
theorem arg_nn {told : List Int} (h : ∀ x ∈ told, 0 ≤ x) (d : Deed) (j : Nat) : 0 ≤ argAt d told j := by
  unfold argAt
  rw [List.getD_eq_getElem?_getD]
  cases e : told[(d.2.getD j 0).toNat]? with
  | none => exact Int.le_refl 0
  | some y => exact h y (List.mem_of_getElem? e)
theorem dval_low {d : Deed} {told : List Int} {n k : Nat} (h : ∀ x ∈ told, 0 ≤ x) (hk : n ≤ k) : dval (2 ^ n) d (told.map (· % 2 ^ n)) = dval (2 ^ k) d told % 2 ^ n := by
  unfold dval
  have e : ∀ j, argAt d (told.map (· % 2 ^ n)) j = argAt d told j % 2 ^ n := fun j => getD_low _ _ _
  rw [e, e, dvalue_low (arg_nn h d 0) (arg_nn h d 1) hk, Int.emod_emod_of_dvd _ (pw_dvd hk)]
theorem vals_low {n k : Nat} (hk : n ≤ k) : ∀ (ds : List Deed) (told : List Int), (∀ x ∈ told, 0 ≤ x) → vals (2 ^ n) ds (told.map (· % 2 ^ n)) = (vals (2 ^ k) ds told).map (· % 2 ^ n)
  | [], _, _ => rfl
  | d :: ds, told, h => by
    show vals (2 ^ n) ds (told.map (· % 2 ^ n) ++ [dval (2 ^ n) d (told.map (· % 2 ^ n))]) = (vals (2 ^ k) ds (told ++ [dval (2 ^ k) d told])).map (· % 2 ^ n)
    rw [dval_low h hk, ← vals_low hk ds, List.map_append]
    · rfl
    · intro x hx
      rcases List.mem_append.mp hx with hx | hx
      · exact h x hx
      · rw [List.mem_singleton.mp hx]
        exact Int.emod_nonneg _ (by have := pw_pos k; omega)
theorem vals_range {size : Int} (hs : 0 < size) : ∀ (ds : List Deed) (told : List Int), (∀ x ∈ told, 0 ≤ x ∧ x < size) → ∀ x ∈ vals size ds told, 0 ≤ x ∧ x < size
  | [], _, h => h
  | d :: ds, told, h => by
    refine vals_range hs ds (told ++ [dval size d told]) fun x hx => ?_
    rcases List.mem_append.mp hx with hx | hx
    · exact h x hx
    · rw [List.mem_singleton.mp hx]
      exact ⟨Int.emod_nonneg _ (by omega), Int.emod_lt_of_pos _ hs⟩
/-! ### lists of ints compared -/
theorem eqv_ints : ∀ l : List Int, PyData.eqv (.list (l.map PyData.int)) (.list (l.map PyData.int)) = true := fun l => SeqAt.eqv_refl _ (SeqAt.canLay_of_shaped (shaped_ints l))
theorem dget_at {H : Hp} {a : Addr} {kvs : List (Key × V)} {k : Key} {v : V} (e : H a = some (.dK kvs)) (h : valV kvs k = some v) : DGet H a (kV k) (some v) := h ▸ DGet.k e
theorem fw_cases {x : Str} {n : Nat} (h : (x, (n : Int)) ∈ fwL) : (n = 0 ∧ (x = "none" ∨ x = "one" ∨ x = "all")) ∨ (n = 1 ∧ (x = "not" ∨ x = "neg" ∨ x = "twice")) ∨ (n = 2 ∧ (x = "and" ∨ x = "or" ∨ x = "xor" ∨ x = "add" ∨ x = "sub")) := by
  unfold fwL at h
  simp only [List.mem_cons, List.not_mem_nil, or_false, Prod.mk.injEq] at h
  rcases h with h | h | h | h | h | h | h | h | h | h | h
  · exact .inl ⟨by omega, .inl h.1⟩
  · exact .inl ⟨by omega, .inr (.inl h.1)⟩
  · exact .inl ⟨by omega, .inr (.inr h.1)⟩
  · exact .inr (.inl ⟨by omega, .inl h.1⟩)
  · exact .inr (.inl ⟨by omega, .inr (.inl h.1)⟩)
  · exact .inr (.inl ⟨by omega, .inr (.inr h.1)⟩)
  · exact .inr (.inr ⟨by omega, .inl h.1⟩)
  · exact .inr (.inr ⟨by omega, .inr (.inl h.1)⟩)
  · exact .inr (.inr ⟨by omega, .inr (.inr (.inl h.1))⟩)
  · exact .inr (.inr ⟨by omega, .inr (.inr (.inr (.inl h.1)))⟩)
  · exact .inr (.inr ⟨by omega, .inr (.inr (.inr (.inr h.1)))⟩)
theorem and_lt {A B : Int} {n : Nat} (a0 : 0 ≤ A) (a1 : A < 2 ^ n) (b0 : 0 ≤ B) : Builtin.bitAnd A B % 2 ^ n = Builtin.bitAnd A B := by
  obtain ⟨a, rfl⟩ := Int.eq_ofNat_of_zero_le a0
  obtain ⟨b, rfl⟩ := Int.eq_ofNat_of_zero_le b0
  rw [bitAnd_pp (Int.natCast_nonneg _) (Int.natCast_nonneg _), castMod]
  rw [pw_cast] at a1
  simp only [Int.toNat_natCast]
  rw [Nat.mod_eq_of_lt (Nat.lt_of_le_of_lt Nat.and_le_left (by omega))]
theorem or_lt {A B : Int} {n : Nat} (a0 : 0 ≤ A) (a1 : A < 2 ^ n) (b0 : 0 ≤ B) (b1 : B < 2 ^ n) : Builtin.bitOr A B % 2 ^ n = Builtin.bitOr A B := by
  obtain ⟨a, rfl⟩ := Int.eq_ofNat_of_zero_le a0
  obtain ⟨b, rfl⟩ := Int.eq_ofNat_of_zero_le b0
  rw [bitOr_nn (Int.natCast_nonneg _) (Int.natCast_nonneg _), castMod]
  rw [pw_cast] at a1 b1
  simp only [Int.toNat_natCast]
  rw [Nat.mod_eq_of_lt (Nat.or_lt_two_pow (by omega) (by omega))]
theorem xor_lt {A B : Int} {n : Nat} (a0 : 0 ≤ A) (a1 : A < 2 ^ n) (b0 : 0 ≤ B) (b1 : B < 2 ^ n) : Builtin.bitXor A B % 2 ^ n = Builtin.bitXor A B := by
  obtain ⟨a, rfl⟩ := Int.eq_ofNat_of_zero_le a0
  obtain ⟨b, rfl⟩ := Int.eq_ofNat_of_zero_le b0
  rw [Bits.bitXor_pp (Int.natCast_nonneg _) (Int.natCast_nonneg _), castMod]
  rw [pw_cast] at a1 b1
  simp only [Int.toNat_natCast]
  rw [Nat.mod_eq_of_lt (Nat.xor_lt_two_pow (by omega) (by omega))]
/-! ### all but the first -/
theorem sIx_one (x : V) (xs : List V) : HT.sIx (x :: xs).length 0 (some 1) = 1 := by
  have e : HT.sIx (x :: xs).length 0 (some 1) = min 1 (x :: xs).length := HT.sIx_nat (x :: xs).length 0 1
  rw [e, List.length_cons]
  omega
theorem cutTail (x : V) (xs : List V) : cutV (x :: xs) (some 1) none = xs := by
  have h2 : HT.sIx (x :: xs).length (x :: xs).length none = (x :: xs).length := HT.sIx_none _ _
  unfold cutV
  rw [sIx_one, h2]
  simp
theorem notWhole (x : V) (xs : List V) : ¬ (HT.sIx (x :: xs).length 0 (some 1) = 0 ∧ HT.sIx (x :: xs).length (x :: xs).length none = (x :: xs).length) := by
  rw [sIx_one]
  exact fun h => absurd h.1 (by decide)
theorem intEq {x y : Int} (h : decide (V.int x = V.int y) = true) : x = y := V.int.inj (of_decide_eq_true h)
theorem intNe {x y : Int} (h : ¬ decide (V.int x = V.int y) = true) : ¬ x = y := fun e => h (decide_eq_true (congrArg V.int e))
/-! ### t + u of two tuples at hand, whatever they hold -/
section
variable {X : Cx}
def rCatZ : R2 := fun x y H Q => ∃ a b xs ys, x = .ref a ∧ y = .ref b ∧ H a = some (.tup xs) ∧ H b = some (.tup ys) ∧ xs.length + ys.length ≤ sizeLine ∧ ∀ p H2, Same H H2 → H2 p = some (.tup (xs ++ ys)) → Q (.ref p) H2
theorem op_catZ : OpR X (binaryOp .Add) rCatZ := by
  intro pins s σ H x y v u Q I rx ry h
  obtain ⟨a, b, xs, ys, rfl, rfl, ha, hb, hz, q⟩ := h
  refine op_catA pins s σ H _ _ v u Q I rx ry ⟨a, b, xs, ys, rfl, rfl, SqT.of ha, SqT.of hb, hz, fun e => ?_, fun _ e => ?_, fun _ _ p hp => ?_⟩
  · subst e
    exact q b H (Same.refl H) hb
  · subst e
    exact q a H (Same.refl H) (by rw [List.append_nil]; exact ha)
  · exact q p _ (same_new hp) upd_same
end
theorem awAppend {α β : Type} {F : α → β → Prop} : ∀ {l k : List α} {l2 k2 : List β}, Paired F l l2 → Paired F k k2 → Paired F (l ++ k) (l2 ++ k2)
  | _, _, _, _, .nil, h => h
  | _, _, _, _, .cons r t, h => .cons r (awAppend t h)
theorem dsOk_append {m t : Int} {ds es : List Deed} (h : DsOk m ds) (k : DsOk t es) (e : t = m + ds.length) : DsOk m (ds ++ es) := by
  constructor
  intro i d hi
  by_cases hl : i < ds.length
  · rw [List.getElem?_append_left hl] at hi
    exact h.each i d hi
  · rw [List.getElem?_append_right (by omega)] at hi
    have := k.each _ d hi
    rw [e] at this
    have e2 : m + (ds.length : Int) + ((i - ds.length : Nat) : Int) = m + i := by omega
    rw [e2] at this
    exact this
/-- all but one stands as it stood -/
def But (f : Addr) (H H2 : Hp) : Prop := ∀ b o, b ≠ f → H b = some o → H2 b = some o
theorem But.trans {f : Addr} {H H1 H2 : Hp} (a : But f H H1) (b : But f H1 H2) : But f H H2 := fun c o n e => b c o n (a c o n e)
theorem But.same {f : Addr} {H H2 : Hp} (s : Same H H2) : But f H H2 := fun b o _ e => s b o e
theorem But.put {f : Addr} {H : Hp} {o : HO} : But f H (upd H f o) := fun b u n e => by
  rw [upd_ne n]
  exact e
theorem But.tups {f : Addr} {H H2 : Hp} {xs : List V} (h : But f H H2) (e : H f = some (.lst xs)) : TupsStay H H2 := fun b ys z => h b _ (ne_of z e (fun q => nomatch q)) z
/-! ### the tape -/
def TP (H : Hp) (a : Addr) : Prop := ∃ x y : Int, H a = some (.lst [.int x, .int y])
theorem TP.same {H H2 : Hp} {a : Addr} (h : TP H a) (s : Same H H2) : TP H2 a := by
  obtain ⟨x, y, e⟩ := h
  exact ⟨x, y, s _ _ e⟩
theorem TP.ne_new {H : Hp} {a p : Addr} (h : TP H a) (e : H p = none) : p ≠ a := by
  obtain ⟨x, y, e1⟩ := h
  exact (ne_of_none e1 e).symm
theorem TP.upd {H : Hp} {a p : Addr} {o : HO} (h : TP H a) (n : p ≠ a) : TP (upd H p o) a := by
  obtain ⟨x, y, e1⟩ := h
  exact ⟨x, y, by rw [upd_ne n.symm]; exact e1⟩
theorem But.tape {a : Addr} {H H2 : Hp} (h : But a H H2) (t : TP H a) : TupsStay H H2 := by
  obtain ⟨x, y, e⟩ := t
  exact h.tups e
theorem But.refl (a : Addr) (H : Hp) : But a H H := fun _ _ _ e => e
theorem atI_in {α : Type} {l : List α} {i : Int} (h0 : 0 ≤ i) (h1 : i < l.length) : ∃ v, atI l i = some v ∧ v ∈ l := by
  obtain ⟨k, rfl⟩ := Int.eq_ofNat_of_zero_le h0
  have hk : k < l.length := by omega
  exact ⟨l[k], atI_nat (List.getElem?_eq_getElem hk), List.getElem_mem hk⟩
/-! ### texts in written tuples -/
theorem inS (x : Str) : ∀ l : List Str, inV (.str x) (l.map V.str) = decide (x ∈ l)
  | [] => rfl
  | y :: l => by
    have ih := inS x l
    show (eqV (.str y) (.str x) || inV (.str x) (l.map V.str)) = _
    rw [ih]
    by_cases h : x = y
    · subst h
      simp [eqV]
    · have h2 : ¬ y = x := fun e => h e.symm
      simp [eqV, h, h2]
def tw12 : List Str := ["add", "sub", "and", "xor", "or", "not", "twice", "neg", "all", "one", "none", "add"]
def twC : List Str := ["add", "sub", "twice", "neg", "one"]
theorem tw_zero : ∀ x ∈ (["all", "one", "none"] : List Str), (x, (0 : Int)) ∈ fwL := by decide +kernel
theorem tw_one : ∀ x ∈ (["not", "twice", "neg"] : List Str), (x, (1 : Int)) ∈ fwL := by decide +kernel
theorem tw_two : ∀ x ∈ tw12, x ∈ (["all", "one", "none"] : List Str) ∨ x ∈ (["not", "twice", "neg"] : List Str) ∨ (x, (2 : Int)) ∈ fwL := by decide +kernel
theorem tw_four : ∀ x ∈ (["and", "or", "xor", "not"] : List Str), x ∈ tw12 := by decide +kernel
theorem mem_strs {v : V} {l : List Str} (h : v ∈ l.map V.str) : ∃ x, x ∈ l ∧ v = .str x := by
  obtain ⟨x, hx, e⟩ := List.mem_map.mp h
  exact ⟨x, hx, e.symm⟩
/-! ### bits and carries of rows -/
def fcD (d : Deed) : Int := if d.1 ∈ (["neg", "one"] : List Str) then 1 else 0
def dbit (x : Str) (a b c : Int) : Int :=
  if x = "none" then 0 else if x = "all" then 1 else if x = "one" then c else if x = "twice" then c else if x = "not" then 1 - a else if x = "neg" then Builtin.bitXor (1 - a) c
  else if x = "and" then Builtin.bitAnd a b else if x = "or" then Builtin.bitOr a b else if x = "xor" then Builtin.bitXor a b else Builtin.bitXor (Builtin.bitXor a b) c
def dcar (x : Str) (a b c : Int) : Int :=
  if x = "neg" then Builtin.bitAnd (1 - a) c else if x = "twice" then a else if x = "add" then (a + b + c) / 2 else if x = "sub" then (1 - a + b + c) / 2 else 0
def dbitAt (d : Deed) (c : Int) (told : List Int) : Int := dbit d.1 (argAt d told 0) (argAt d told 1) c
def dcarAt (d : Deed) (c : Int) (told : List Int) : Int := dcar d.1 (argAt d told 0) (argAt d told 1) c
def bts : List Deed → List Int → List Int → List Int
  | d :: ds, c :: cs, told => bts ds cs (told ++ [dbitAt d c told])
  | _, _, told => told
def nxt (ds : List Deed) (cs told : List Int) : List Int := List.zipWith (fun d c => dcarAt d c told) ds cs
abbrev Bit (x : Int) : Prop := x = 0 ∨ x = 1
theorem bit0 : Bit 0 := .inl rfl
theorem bit1 : Bit 1 := .inr rfl
theorem dbit_bit {x : Str} {a b c : Int} (ha : Bit a) (hb : Bit b) (hc : Bit c) : Bit (dbit x a b c) := by
  have n1 : Bit (1 - a) := by rcases ha with rfl | rfl <;> simp [Bit]
  have hx : ∀ {p q : Int}, Bit p → Bit q → Bit (Builtin.bitXor p q) := fun hp hq => by
    rcases hp with rfl | rfl <;> rcases hq with rfl | rfl <;> decide
  have hand : ∀ {p q : Int}, Bit p → Bit q → Bit (Builtin.bitAnd p q) := fun hp hq => by
    rcases hp with rfl | rfl <;> rcases hq with rfl | rfl <;> decide
  have hor : ∀ {p q : Int}, Bit p → Bit q → Bit (Builtin.bitOr p q) := fun hp hq => by
    rcases hp with rfl | rfl <;> rcases hq with rfl | rfl <;> decide
  unfold dbit
  split; · exact bit0
  split; · exact bit1
  split; · exact hc
  split; · exact hc
  split; · exact n1
  split; · exact hx n1 hc
  split; · exact hand ha hb
  split; · exact hor ha hb
  split; · exact hx ha hb
  exact hx (hx ha hb) hc
theorem dcar_bit {x : Str} {a b c : Int} (ha : Bit a) (hb : Bit b) (hc : Bit c) : Bit (dcar x a b c) := by
  unfold dcar
  split
  · rcases ha with rfl | rfl <;> rcases hc with rfl | rfl <;> decide
  split; · exact ha
  split
  · rcases ha with rfl | rfl <;> rcases hb with rfl | rfl <;> rcases hc with rfl | rfl <;> decide
  split
  · rcases ha with rfl | rfl <;> rcases hb with rfl | rfl <;> rcases hc with rfl | rfl <;> decide
  exact bit0
theorem argAt_bit {told : List Int} (h : ∀ x ∈ told, Bit x) (d : Deed) (j : Nat) : Bit (argAt d told j) := by
  unfold argAt
  rw [List.getD_eq_getElem?_getD]
  cases e : told[(d.2.getD j 0).toNat]? with
  | none => exact bit0
  | some y => exact h y (List.mem_of_getElem? e)
theorem bts_next : ∀ {ds : List Deed} {cs t : List Int} {i : Nat} {d : Deed} {c : Int}, ds[i]? = some d → cs[i]? = some c → bts (ds.take (i + 1)) (cs.take (i + 1)) t = bts (ds.take i) (cs.take i) t ++ [dbitAt d c (bts (ds.take i) (cs.take i) t)]
  | [], _, _, _, _, _, h, _ => by simp at h
  | _ :: _, [], _, _, _, _, _, h => by simp at h
  | e :: ds, g :: cs, t, 0, d, c, h, k => by
    simp only [List.getElem?_cons_zero, Option.some.injEq] at h k
    subst h k
    rfl
  | e :: ds, g :: cs, t, i + 1, d, c, h, k => by
    simp only [List.getElem?_cons_succ] at h k
    exact bts_next (t := t ++ [dbitAt e g t]) h k
theorem bts_len : ∀ {ds : List Deed} {cs t : List Int}, ds.length = cs.length → (bts ds cs t).length = t.length + ds.length
  | [], [], _, _ => rfl
  | [], _ :: _, _, h => by simp at h
  | _ :: _, [], _, h => by simp at h
  | d :: ds, c :: cs, t, h => by
    show (bts ds cs (t ++ [dbitAt d c t])).length = _
    rw [bts_len (by simpa using h), List.length_append, List.length_cons, List.length_cons, List.length_nil]
    omega
theorem bts_bits : ∀ {ds : List Deed} {cs t : List Int}, (∀ x ∈ t, Bit x) → (∀ x ∈ cs, Bit x) → ∀ x ∈ bts ds cs t, Bit x
  | [], cs, t, h, _ => by
    unfold bts
    exact h
  | _ :: _, [], t, h, _ => by
    unfold bts
    exact h
  | d :: ds, c :: cs, t, h, k => by
    refine bts_bits (ds := ds) (cs := cs) (t := t ++ [dbitAt d c t]) (fun x hx => ?_) fun x hx => k x (List.mem_cons_of_mem _ hx)
    rcases List.mem_append.mp hx with hx | hx
    · exact h x hx
    · rw [List.mem_singleton.mp hx]
      exact dbit_bit (argAt_bit h d 0) (argAt_bit h d 1) (k c List.mem_cons_self)
theorem nxt_len {ds : List Deed} {cs t : List Int} (h : ds.length = cs.length) : (nxt ds cs t).length = ds.length := by
  unfold nxt
  rw [List.length_zipWith]
  omega
theorem nxt_bits {ds : List Deed} {cs t : List Int} (h : ∀ x ∈ t, Bit x) (k : ∀ x ∈ cs, Bit x) : ∀ x ∈ nxt ds cs t, Bit x := by
  intro x hx
  unfold nxt at hx
  obtain ⟨i, hi⟩ := List.mem_iff_getElem?.mp hx
  rw [List.getElem?_zipWith] at hi
  cases e1 : ds[i]? with
  | none => rw [e1] at hi; simp at hi
  | some d =>
    cases e2 : cs[i]? with
    | none => rw [e1, e2] at hi; simp at hi
    | some c =>
      rw [e1, e2] at hi
      have := Option.some.inj hi
      rw [← this]
      exact dcar_bit (argAt_bit h d 0) (argAt_bit h d 1) (k c (List.mem_of_getElem? e2))
theorem nxt_next {ds : List Deed} {cs t : List Int} {i : Nat} {d : Deed} {c : Int} (h : ds[i]? = some d) (k : cs[i]? = some c) : (nxt ds cs t).take (i + 1) = (nxt ds cs t).take i ++ [dcarAt d c t] := by
  rw [List.take_add_one]
  unfold nxt
  rw [List.getElem?_zipWith, h, k]
  rfl
section
variable {K : PySem.W.Frag} {a b : Addr} {xs ys : List V}
theorem walk_zipT (hn : xs.length = ys.length) : Walk (RZ.ItzT K a b) xs.length (fun H => SqT K H a xs ∧ SqT K H b ys) (YPair (fun i => xs[i]?) (fun i => ys[i]?)) where
  goes := fun i H hi q => ⟨xs, ys, xs[i], ys[i]'(by omega), q.1, q.2, List.getElem?_eq_getElem hi, List.getElem?_eq_getElem (by omega)⟩
  stops := fun H q => ⟨xs, ys, q.1, q.2, .inl (Nat.le_refl _)⟩
  yields := fun i H v H2 hi q y => by
    obtain ⟨T, x, z, h1, h2, h3, h4, h5⟩ := y
    exact ⟨T, x, z, h1, h2, h3, h4 xs q.1, h5 ys q.2⟩
end
/-! ### own exceptions as values -/
section
variable {X : Cx} {K : PySem.W.Frag}
theorem kit_ref {D C : Addr} {b : Bool} (h1 : PySem.W.isClsIn K C = true) (h2 : PySem.W.typeIn K (.ref C) = some (.type "type")) (h3 : PySem.W.subIn K (.ref D) (.ref C) = some b) (h4 : PySem.W.subIn K (.ref C) (.ref C) = some true) : PySem.W.kitOne K (.ref D) (.ref C) = some b := by
  unfold PySem.W.kitOne
  by_cases e : D = C
  · subst e
    rw [h3] at h4
    rw [if_pos (by simp), h4]
  · rw [if_neg (by simpa using e)]
    have e1 : ((PySem.W.clsIn K C).isSome && PySem.W.typeIn K (.ref C) == some (.type "type")) = true := by
      have h1' : (PySem.W.clsIn K C).isSome = true := h1
      rw [h1', h2]
      rfl
    show (if ((PySem.W.clsIn K C).isSome && PySem.W.typeIn K (.ref C) == some (.type "type")) = true then PySem.W.subIn K (.ref D) (.ref C) else none) = some b
    rw [if_pos e1]
    exact h3
theorem kit_ve {D : Addr} {b : Bool} (h : PySem.W.subIn K (.ref D) (.type "ValueError") = some b) : PySem.W.kitOne K (.ref D) (.type "ValueError") = some b := by
  have e1 : PySem.W.kitMeta "ValueError" = true := by decide +kernel
  show (if PySem.W.kitMeta "ValueError" = true then PySem.W.subIn K (.ref D) (.type "ValueError") else none) = some b
  rw [if_pos e1]
  exact h
def rIsX (K : PySem.W.Frag) : List V → Hp → VK → Prop := fun xs H Q => ∃ (a D : Addr) (c : V) (cv : Value) (b : Bool), xs = [.ref a, c] ∧ H a = some (ExO (.ref D) a) ∧ ExcC K D ∧ ClsV c cv ∧ PySem.W.kitOne K (.ref D) cv = some b ∧ Q (.bl b) H
theorem call_isX : CallR X (.builtin "isinstance") (rIsX X.K) := by
  intro pins s σ H xs us Q I r h
  obtain ⟨a, D, c, cv, b, rfl, ha, hD, hc, hk, q⟩ := h
  match us, r with
  | [u1, u2], .cons r1 (.cons r2 .nil) =>
    obtain rfl : u1 = Value.ref a := r1
    obtain rfl := ClsV.eq hc r2
    obtain ⟨⟨oe, vs, hget, ⟨z1, z2⟩, hv, _⟩, _, _⟩ := I.hok a _ ha
    have J : PySem.W.InstAt s.heap a oe D none := by
      obtain ⟨oc, od, oda, osl⟩ := oe
      dsimp only at z1 z2 hv
      subst z1 z2 hv
      exact ⟨hget, rfl, rfl, trivial⟩
    exact PySem.W.kia_one (PySem.W.handS_kitx_exc hD.hg hD.hk hD.hs hD.hd hD.ha hD.hn hD.ht hD.hm) I.kIn J hk (fun z => nomatch z) fun tk => ⟨.bl b, H, I.kept (t' := tk) fun _ _ z => z, rfl, q⟩
end
theorem dp_bls {K : PySem.W.Frag} {H : Hp} : ∀ cs : List Bool, DpAll K H (cs.map V.bl) (cs.map PyData.bool)
  | [] => .nil
  | c :: cs => .cons (.bl c) (dp_bls cs)
theorem lay_bls : ∀ cs : List Bool, PyData.canLayAll0 (cs.map PyData.bool) = true ∧ PyData.depthAll (cs.map PyData.bool) = 0
  | [] => ⟨by simp only [List.map_nil, PyData.canLayAll0], by simp only [List.map_nil, PyData.depthAll]⟩
  | c :: cs => by
    obtain ⟨h1, h2⟩ := lay_bls cs
    exact ⟨by simp only [List.map_cons, PyData.canLayAll0, PyData.canLay0, h1, Bool.and_self], by simp only [List.map_cons, PyData.depthAll, PyData.depth, h2, Nat.max_self]⟩
theorem shaped_bls (cs : List Bool) : SeqAt.shaped (.list (cs.map PyData.bool)) = true := by
  obtain ⟨h1, h2⟩ := lay_bls cs
  simp only [SeqAt.shaped, PyData.canLay0, PyData.depth, h1, h2, Bool.true_and]
  decide
theorem eqv_bls (l : List Bool) : PyData.eqv (.list (l.map PyData.bool)) (.list (l.map PyData.bool)) = true := SeqAt.eqv_refl _ (SeqAt.canLay_of_shaped (shaped_bls l))
/-- a test that is never asked -/
def tNevT : TT := fun _ _ _ => False
theorem pt_never {X : Cx} {e : Expr} : PT X e tNevT := ⟨fun _ _ _ _ _ _ h => h.elim⟩
end AW
namespace KK
open PySem PySem.Spec PyProof.Rows L2 AW
def topS (i : Nat) : Stmt := PySem.Challenge.pw_anywide_k66_rows_that_dont_go_together.main.body.getD i (.Pass ⟨0, 0, 0, 0⟩)
abbrev s_renumbered : Stmt := topS 11
abbrev N_renumbered : List Str := ["deed", "numbers", "number"]
theorem sc_renumbered : FnScope N_renumbered ["deed", "numbers"] (defScope s_renumbered) := ⟨rfl, rfl, rfl, by decide +kernel, rfl, by decide +kernel, by decide +kernel⟩
abbrev s_check_parts : Stmt := topS 13
abbrev N_check_parts : List Str := ["row", "rows", "part", "length"]
theorem sc_check_parts : FnScope N_check_parts ["row", "rows"] (defScope s_check_parts) := ⟨rfl, rfl, rfl, by decide +kernel, rfl, by decide +kernel, by decide +kernel⟩
abbrev s_put_behind : Stmt := topS 14
abbrev N_put_behind : List Str := ["many", "deeds", "row", "inputs", "ahead", "numbers", "deed"]
theorem sc_put_behind : FnScope N_put_behind ["many", "deeds", "row", "inputs"] (defScope s_put_behind) := ⟨rfl, rfl, rfl, by decide +kernel, rfl, by decide +kernel, by decide +kernel⟩
abbrev s_put_together : Stmt := topS 15
abbrev N_put_together : List Str := ["row", "rows", "many", "deeds", "outs", "part", "out"]
theorem sc_put_together : FnScope N_put_together ["row", "rows"] (defScope s_put_together) := ⟨rfl, rfl, rfl, by decide +kernel, rfl, by decide +kernel, by decide +kernel⟩
abbrev s_law_well : Stmt := topS 17
abbrev N_law_well : List Str := ["script", "seed", "cell"]
theorem sc_law_well : FnScope N_law_well ["script"] (defScope s_law_well) := ⟨rfl, rfl, rfl, by decide +kernel, rfl, by decide +kernel, by decide +kernel⟩
abbrev s_law_draw : Stmt := topS 18
abbrev N_law_draw : List Str := ["well", "many", "cell", "found"]
theorem sc_law_draw : FnScope N_law_draw ["well", "many"] (defScope s_law_draw) := ⟨rfl, rfl, rfl, by decide +kernel, rfl, by decide +kernel, by decide +kernel⟩
abbrev s_law_first_words : Stmt := topS 19
abbrev N_law_first_words : List Str := ["found", "word"]
theorem sc_law_first_words : FnScope N_law_first_words [] (defScope s_law_first_words) := ⟨rfl, rfl, rfl, by decide +kernel, rfl, by decide +kernel, by decide +kernel⟩
abbrev s_law_deed : Stmt := topS 20
abbrev N_law_deed : List Str := ["well", "ahead", "words", "word", "k"]
theorem sc_law_deed : FnScope N_law_deed ["well", "ahead"] (defScope s_law_deed) := ⟨rfl, rfl, rfl, by decide +kernel, rfl, by decide +kernel, by decide +kernel⟩
abbrev s_law_row : Stmt := topS 21
abbrev N_law_row : List Str := ["well", "many", "most", "size", "last", "deeds", "k", "out"]
theorem sc_law_row : FnScope N_law_row ["well", "many", "most"] (defScope s_law_row) := ⟨rfl, rfl, rfl, by decide +kernel, rfl, by decide +kernel, by decide +kernel⟩
abbrev s_law_kind : Stmt := topS 22
abbrev N_law_kind : List Str := ["row", "rows", "caught", "found", "e"]
theorem sc_law_kind : FnScope N_law_kind ["row", "rows"] (defScope s_law_kind) := ⟨rfl, rfl, rfl, by decide +kernel, rfl, by decide +kernel, by decide +kernel⟩
abbrev s_law : Stmt := topS 23
abbrev N_law : List Str := ["script", "well", "turn", "way", "great", "many", "inputs", "row", "rows", "due", "size", "kept", "k", "one"]
theorem sc_law : FnScope N_law ["script"] (defScope s_law) := ⟨rfl, rfl, rfl, by decide +kernel, rfl, by decide +kernel, by decide +kernel⟩
abbrev c_WideError : Stmt := topS 1
abbrev c_NoRow : Stmt := topS 2
abbrev c_NoPair : Stmt := topS 3
abbrev c_NoRule : Stmt := topS 4
abbrev c_NoName : Stmt := topS 5
abbrev c_NoText : Stmt := topS 6
abbrev c_TooMany : Stmt := topS 7
abbrev c_Nothing : Stmt := topS 8
section
variable {P : Program} {w : World} {K : PySem.W.Frag} {mg : Str → Option Value} {base : Heap}
def spWell (K : PySem.W.Frag) : Sp := fun vs H Q _ => ∃ (a : Addr) (ns : List Int), vs = [.ref a] ∧ SqL K H a (ns.map V.int) ∧ ns.length ≤ 63 ∧ (∀ z ∈ ns, Builtin.Int.intBits z ≤ 1048576) ∧
  ∀ H' p c, Same H H' → H p = none → H c = none → WL H' p c → Q (.ref p) H'
theorem ok_well {f : Addr} {fd : FuncData} {k : Nat} (F : Fun K "_law_well" "_law_well" s_law_well f fd) (ma : mg "abs" = none) : FnOk P w K mg base CX0 (k + 1) f fd ["script"] (spWell K) := by
  refine F.ok sc_law_well (fun vs H Q E h => ?_) (fun cdv A outer s H vs Q E hr h => ?_)
  · obtain ⟨a, ns, rfl, _⟩ := h
    rfl
  · obtain ⟨a, ns, rfl, hS, hlen, hbits, q⟩ := h
    refine ⟨_, pss_cons (ps_set (i := 1) sc_law_well.nd rfl (.inl rfl) pe_int)
      (pss_cons (ps_for PassesOwn.never rfl (pi_list (pv 0)) (pg_name (i := 2) sc_law_well.nd rfl (.inl rfl))
        (pss_one (ps_set (i := 1) sc_law_well.nd rfl (.inl rfl) (pe_op op_add (pe_op op_mod (pe_op op_powW (pe_op op_add (pe_op op_mul (pv 1) pe_int) (pv 2)) pe_int) pe_int) pe_int))))
      (pss_one (ps_ret (pe_lst (pa_cons (pe_lc (own := [("cell", 2)]) (g := gName 2) (by rfl) sc_law_well.nd (pi_list (pv 0)) (blkOk_by (own := [("cell", 2)]) (N := ["script", "seed", "cell"]) (sc := defScope s_law_well) (by decide +kernel))
          (fun _ _ _ _ _ => pg_name (i := 2) sc_law_well.nd rfl (Or.inl rfl)) (fun _ _ _ _ _ => pts_nil)
          (fun _ _ _ _ _ => pe_callB call_abs (by rfl) ma (by decide +kernel) (pa_cons (pv 2) pa_nil))) (pa_cons pe_int (pa_cons (pv 1) pa_nil))))))), ?_⟩
    refine ⟨.ref a, rfl, a, rfl, ⟨_, hS⟩, for_list (K := K) (a := a) (xs := ns.map V.int) (fun i σ H3 => ∃ z y, σ = [some (.ref a), some (.int z), y] ∧ 0 ≤ z ∧ z ≤ 2147483629 ∧ H3 = H) ⟨1, none, rfl, by decide, by decide, rfl⟩ (fun i σ H3 _ hp => ?_) (fun i x σ H3 hx hp => ?_) (fun σ H3 hp => ?_)⟩
    · obtain ⟨z, y, _, _, _, rfl⟩ := hp
      exact hS
    · obtain ⟨z, y, rfl, h0, h1, rfl⟩ := hp
      obtain ⟨c, hc, rfl⟩ : ∃ c, c ∈ ns ∧ x = .int c := by
        rw [List.getElem?_map] at hx
        cases e : ns[i]? with
        | none => rw [e] at hx; cases hx
        | some c => rw [e] at hx; exact ⟨c, List.mem_of_getElem? e, (Option.some.inj hx).symm⟩
      refine ⟨.int z, rfl, z, 50021, rfl, rfl, .inr ⟨by decide, by decide⟩, .int c, rfl, _, _, rfl, rfl, _, 3, rfl, rfl, seed_ok h0 h1 (hbits c hc), _, 2147483629, rfl, rfl, (by show (0 : Int) < 2147483629; decide), _, 1, rfl, rfl, ?_⟩
      refine ⟨_, some (.int c), rfl, ?_, ?_, rfl⟩
      · have := Int.emod_nonneg ((z * 50021 + c) ^ (3 : Int).toNat) (show (2147483629 : Int) ≠ 0 by decide)
        omega
      · have := Int.emod_lt_of_pos ((z * 50021 + c) ^ (3 : Int).toNat) (show (0 : Int) < 2147483629 by decide)
        omega
    · obtain ⟨z, y, rfl, h0, h1, rfl⟩ := hp
      refine ⟨.ref a, rfl, a, rfl, ⟨_, hS⟩, fun D hD => ?_⟩
      have sD : ∀ o, Same H3 (upd H3 D o) := fun o => same_new hD
      refine lc_list (K := K) (a := a) (xs := ns.map V.int) (fun i H4 => ∃ cs : List Int, cs.length = i ∧ H4 = upd H3 D (.lst (cs.map V.int))) ⟨[], rfl, rfl⟩ (fun i H4 _ hp => ?_) (fun i x H4 hx hp => ?_) (fun H4 hp => ?_)
      · obtain ⟨cs, _, rfl⟩ := hp
        exact (sD _).seq hS
      · obtain ⟨cs, hl, rfl⟩ := hp
        obtain ⟨c, hc, rfl⟩ : ∃ c, c ∈ ns ∧ x = .int c := by
          rw [List.getElem?_map] at hx
          cases e : ns[i]? with
          | none => rw [e] at hx; cases hx
          | some c => rw [e] at hx; exact ⟨c, List.mem_of_getElem? e, (Option.some.inj hx).symm⟩
        have hi : i < ns.length := by
          have := (List.getElem?_eq_some_iff.mp hx).1
          rwa [List.length_map] at this
        refine ⟨rfl, .int c, rfl, c, rfl, _, upd_same, ?_, cs ++ [if c < 0 then -c else c], ?_, ?_⟩
        · rw [List.length_map, hl]
          exact small1000 (by omega)
        · rw [List.length_append, hl]
          rfl
        · rw [upd_upd, List.map_append]
          rfl
      · obtain ⟨cs, hl, rfl⟩ := hp
        refine ⟨.int z, rfl, by show 3 ≤ sizeLine; decide, fun p hp => ?_⟩
        have np : p ≠ D := fun e => by
          rw [e, upd_same] at hp
          cases hp
        have hp2 : H3 p = none := by
          rw [upd_ne np] at hp
          exact hp
        refine q _ p D ((sD _).trans (same_new hp)) hp2 hD ⟨np, cs, 0, z, upd_same, ?_⟩
        rw [upd_ne np.symm, upd_same]
def spDraw : Sp := fun vs H Q _ => ∃ (a c : Addr) (m : Int), vs = [.ref a, .int m] ∧ 0 < m ∧ m ≤ 2 ^ 80 ∧ WL H a c ∧ ∀ H' z, 0 ≤ z → z < m → WL H' a c → Kp a c H H' → Q (.int z) H'
theorem ok_draw {f : Addr} {fd : FuncData} {k : Nat} (F : Fun K "_law_draw" "_law_draw" s_law_draw f fd) : FnOk P w K mg base CX0 (k + 1) f fd ["well", "many"] spDraw := by
  refine F.ok sc_law_draw (fun vs H Q E h => ?_) (fun cdv A outer s H vs Q E hr h => ?_)
  · obtain ⟨a, c, m, rfl, _⟩ := h
    rfl
  · obtain ⟨a, c, m, rfl, hm, hm2, hw, q⟩ := h
    refine ⟨_, pss_mid (ps_if (PW.pt (pw_and (pt_cmpR op_eq (pe_ix ix_list (pv 0) pe_int (fun _ _ => rfl)) pe_int (nomark _))
          (pw_and1 (pt_cmpR (op_neD hr.units) (pe_ix ix_list (pv 0) pe_int (fun _ _ => rfl)) (pe_lst pa_nil) (nomark _)))))
        (pss_cons (ps_set (i := 2) sc_law_draw.nd rfl (.inl rfl) (pe_bm PySem.F.plainAttrs_list PySem.F.slot_list_pop PySem.F.type_list_pop mt_popAt (pe_ix ix_list (pv 0) pe_int (fun _ _ => rfl)) (pa_cons pe_int pa_nil)))
        (pss_cons (ps_if (pt_cmpR op_lt (pv 2) (pe_op op_pow pe_int pe_int) (nomark _)) (pss_one (ps_ret (pe_op op_mod (pv 2) (pv 1)))) pss_nil)
        (pss_one (ps_asg (pv 2) (pg_sub (pv 0) pe_int set_list))))) pss_nil)
      (pss_cons (ps_if (pt_cmpR op_gt (pe_ix ix_list (pv 0) pe_int (fun _ _ => rfl)) pe_int (nomark _))
        (pss_cons (ps_set (i := 3) sc_law_draw.nd rfl (.inl rfl) (pe_op op_mod (pe_ix ix_list (pv 0) pe_int (fun _ _ => rfl)) (pv 1)))
        (pss_cons (ps_asg (pe_op op_fdivW (pe_ix ix_list (pv 0) pe_int (fun _ _ => rfl)) (pv 1)) (pg_sub (pv 0) pe_int set_list))
        (pss_one (ps_ret (pv 3))))) pss_nil)
      (pss_cons (ps_asg (pe_op op_mod (pe_op op_add (pe_op op_mul (pe_ix ix_list (pv 0) pe_int (fun _ _ => rfl)) pe_int) pe_int) pe_int) (pg_sub (pv 0) pe_int set_list))
      (pss_one (ps_ret (pe_op op_mod (pe_op op_fdiv (pe_op op_mod (pe_op op_pow (pe_op op_mod (pe_op op_pow (pe_ix ix_list (pv 0) pe_int (fun _ _ => rfl)) pe_int) pe_int) pe_int) pe_int) pe_int) (pv 1)))))), ?_⟩
    refine ⟨fun σ2 H2 => ∃ y, σ2 = [some (.ref a), some (.int m), y, none] ∧ WL H2 a c ∧ Kp a c H H2, ?_, ?_⟩
    · obtain ⟨nac, cs, r, sd, ea, ec⟩ := id hw
      have lA : SqL K H a [.ref c, .int r, .int sd] := .inl (.inl ea)
      refine ⟨.ref a, rfl, a, _, 1, .int r, rfl, rfl, lA, rfl, rfl, _, rfl, ite2 (fun e => ?_) (fun e => ?_)⟩
      · refine ⟨.ref a, rfl, a, _, 0, .ref c, rfl, rfl, lA, rfl, Nat.zero_le _, fun p hp => ?_⟩
        have sp : Same H (upd H p (.lst [])) := same_new hp
        refine ⟨.list (cs.map PyData.int), .list [], .lst (sp.seq (.inl (.inl ec))) (dp_ints cs), .lst (.inl (.inl upd_same)) .nil, shaped_ints cs, by decide +kernel, _, rfl, ?_⟩
        have ec2 : upd H p (.lst []) c = some (.lst (cs.map V.int)) := sp _ _ ec
        have ea2 : upd H p (.lst []) a = some (.lst [.ref c, .int r, .int sd]) := sp _ _ ea
        have lA2 : SqL K (upd H p (.lst [])) a [.ref c, .int r, .int sd] := .inl (.inl ea2)
        cases cs with
        | nil =>
          rw [show PyData.eqv (.list (([] : List Int).map PyData.int)) (.list []) = true by decide +kernel]
          exact ⟨_, rfl, hw.same sp, Same.kp sp⟩
        | cons x cs =>
          rw [show PyData.eqv (.list ((x :: cs).map PyData.int)) (.list []) = false by simp only [List.map_cons, PyData.eqv, PyData.eqvAll]]
          refine ⟨.ref a, rfl, a, _, 0, .ref c, rfl, rfl, lA2, rfl, .inl ⟨rfl, _, .inl (.inl ec2)⟩, c, _, 0, 0, .int x, rfl, rfl, ec2, by decide, by decide, ?_, rfl, ?_⟩
          · rw [List.length_map, List.length_cons]
            exact seq0 _
          have w3 : WL (upd (upd H p (.lst [])) c (.lst (List.eraseIdx ((x :: cs).map V.int) 0))) a c := ⟨nac, cs, r, sd, by rw [upd_ne nac]; exact ea2, upd_same⟩
          have k3 : Kp a c H (upd (upd H p (.lst [])) c (.lst (List.eraseIdx ((x :: cs).map V.int) 0))) := fun b o n1 n2 eb => by
            rw [upd_ne n2]
            exact sp _ _ eb
          refine ⟨.int x, rfl, 10, 18, rfl, rfl, ⟨by decide, by decide, by decide⟩, x, _, rfl, rfl, _, rfl, ite2 (fun e => ?_) (fun e => ?_)⟩
          · exact ⟨.int x, rfl, .int m, rfl, x, m, rfl, rfl, hm, q _ _ (Int.emod_nonneg _ (by omega)) (Int.emod_lt_of_pos _ hm) w3 k3⟩
          · refine ⟨.int x, rfl, .ref a, rfl, a, _, 1, 1, rfl, rfl, by rw [upd_ne nac]; exact ea2, rfl, some (.int x), rfl, ?_, ?_⟩
            · exact ⟨nac, cs, x, sd, upd_same, by rw [upd_ne nac.symm]; exact upd_same⟩
            · intro b o n1 n2 eb
              rw [upd_ne n1]
              exact k3 b o n1 n2 eb
      · exact ⟨_, rfl, hw, Kp.refl a c H⟩
    · rintro σ2 H2 ⟨y, rfl, hw2, kp⟩
      obtain ⟨nac, cs, r, sd, ea, ec⟩ := id hw2
      have lA : SqL K H2 a [.ref c, .int r, .int sd] := .inl (.inl ea)
      refine ⟨.ref a, rfl, a, _, 1, .int r, rfl, rfl, lA, rfl, r, 0, rfl, rfl, _, rfl, ite2 (fun e => ?_) (fun e => ?_)⟩
      · refine ⟨.ref a, rfl, a, _, 1, .int r, rfl, rfl, lA, rfl, .int m, rfl, r, m, rfl, rfl, hm, ?_⟩
        refine ⟨.ref a, rfl, a, _, 1, .int r, rfl, rfl, lA, rfl, .int m, rfl, r, m, rfl, rfl, wide_div (b := 81) hm (by omega) (by decide) (by decide), ?_⟩
        refine ⟨.ref a, rfl, a, _, 1, 1, rfl, rfl, ea, rfl, .int (r % m), rfl, ?_⟩
        refine q _ _ (Int.emod_nonneg _ (by omega)) (Int.emod_lt_of_pos _ hm) ⟨nac, cs, r / m, sd, upd_same, ?_⟩ ?_
        · rw [upd_ne nac.symm]
          exact ec
        · intro b o n1 n2 eb
          rw [upd_ne n1]
          exact kp b o n1 n2 eb
      · refine ⟨.ref a, rfl, a, _, 2, .int sd, rfl, rfl, lA, rfl, sd, 48271, rfl, rfl, .inr ⟨by decide, by decide⟩, _, 12345, rfl, rfl, _, 2147483647, rfl, rfl, (by show (0 : Int) < 2147483647; decide), ?_⟩
        have l0 := Int.emod_nonneg (sd * 48271 + 12345) (show (2147483647 : Int) ≠ 0 by decide)
        have l1 := Int.emod_lt_of_pos (sd * 48271 + 12345) (show (0 : Int) < 2147483647 by decide)
        obtain ⟨z, hz⟩ : ∃ z : Int, (sd * 48271 + 12345) % 2147483647 = z := ⟨_, rfl⟩
        rw [hz] at l0 l1
        refine ⟨.ref a, rfl, a, _, 2, 2, rfl, rfl, ea, rfl, ?_⟩
        have l2 := Int.emod_nonneg (z ^ (3 : Int).toNat) (show (2147483629 : Int) ≠ 0 by decide)
        have l3 := Int.emod_lt_of_pos (z ^ (3 : Int).toNat) (show (0 : Int) < 2147483629 by decide)
        refine ⟨.ref a, rfl, a, _, 2, .int z, rfl, rfl, .inl (.inl upd_same), (by rw [← hz]; rfl), z, 3, rfl, rfl, ⟨by decide, by decide, by omega⟩, _, 2147483629, rfl, rfl, (by show (0 : Int) < 2147483629; decide), ?_⟩
        obtain ⟨x, hx⟩ : ∃ x : Int, z ^ (3 : Int).toNat % 2147483629 = x := ⟨_, rfl⟩
        rw [hx] at l2 l3
        refine ⟨x, 5, congrArg V.int hx, rfl, ⟨by decide, by decide, by omega⟩, _, 1000000007, rfl, rfl, (by show (0 : Int) < 1000000007; decide), _, 7, rfl, rfl, ⟨by decide, by decide⟩, .int m, rfl, _, m, rfl, rfl, hm, ?_⟩
        refine q _ _ (Int.emod_nonneg _ (by omega)) (Int.emod_lt_of_pos _ hm) ⟨nac, cs, r, z, (by rw [← hz]; exact upd_same), ?_⟩ ?_
        · rw [upd_ne nac.symm]
          exact ec
        · intro b o n1 n2 eb
          rw [upd_ne n1]
          exact kp b o n1 n2 eb
/-! ### first_words -/
def spFw : Sp := fun vs H Q _ => vs = [] ∧ ∀ H' p, Same H H' → H p = none → H' p = some (.dK fwK) → Q (.ref p) H'
theorem ok_fw {f : Addr} {fd : FuncData} {k : Nat} (F : Fun K "_law_first_words" "_law_first_words" s_law_first_words f fd) : FnOk P w K mg base CX0 (k + 1) f fd [] spFw := by
  refine F.ok sc_law_first_words (fun vs H Q E h => ?_) (fun cdv A outer s H vs Q E hr h => ?_)
  · rw [h.1]
    rfl
  · obtain ⟨rfl, q⟩ := h
    refine ⟨_, pss_cons (ps_set (i := 0) sc_law_first_words.nd rfl (.inl rfl) (pe_disp (pps_cons pe_str pe_int (pps_cons pe_str pe_int (pps_cons pe_str pe_int (pps_cons pe_str pe_int (pps_cons pe_str pe_int (pps_cons pe_str pe_int pps_nil)))))) (by rfl) (by rfl) (fun z => by cases z) (by decide)))
      (pss_cons (ps_for PassesOwn.never rfl (pi_list (pe_lst (pa_cons pe_str (pa_cons pe_str (pa_cons pe_str (pa_cons pe_str (pa_cons pe_str pa_nil))))))) (pg_name (i := 1) sc_law_first_words.nd rfl (.inl rfl))
        (pss_one (ps_dput (hu_of hr) (pv 0) (pv 1) pe_int rfl)))
      (pss_one (ps_ret (pv 0)))), ?_⟩
    intro p hp
    refine ⟨upd_same, (fwK.take 6), rfl, by decide, ?_⟩
    refine ⟨by show 5 ≤ sizeLine; decide, fun l hl => ?_⟩
    rw [upd_upd] at hl ⊢
    have nlp : l ≠ p := fun e => by
      rw [e, upd_same] at hl
      cases hl
    have hl0 : H l = none := by
      rw [upd_ne nlp] at hl
      exact hl
    refine ⟨l, rfl, ⟨_, .inl (.inl upd_same)⟩, for_list (K := K) (a := l) (xs := [.str "and", .str "or", .str "xor", .str "add", .str "sub"]) (fun i σ H3 => ∃ y, σ = [some (.ref p), y] ∧ H3 p = some (.dK (fwK.take (6 + i))) ∧ H3 l = some (.lst [.str "and", .str "or", .str "xor", .str "add", .str "sub"]) ∧ Same H H3) ⟨none, rfl, ?_, upd_same, (same_new hp).trans (same_new hl)⟩ (fun i σ H3 _ hp => ?_) (fun i x σ H3 hx hq => ?_) (fun σ H3 hq => ?_)⟩
    · rw [upd_ne nlp.symm, upd_same]
      rfl
    · obtain ⟨y, _, _, e, _⟩ := hp
      exact .inl (.inl e)
    · obtain ⟨y, rfl, ep, el, sm⟩ := hq
      have hi : i < 5 := (List.getElem?_eq_some_iff.mp hx).1
      have hp3 : ∀ o, Same H (upd H3 p o) := fun o b u e => by
        rw [upd_ne (ne_of_none e hp)]
        exact sm b u e
      have hlen : (fwK.take (6 + i)).length < sizeLine := by
        rw [List.length_take]
        exact small1000 (by omega)
      obtain ⟨x0, rfl, ex⟩ : ∃ x0 : Str, x = .str x0 ∧ putK (fwK.take (6 + i)) (Sum.inr x0) (.int 2) = fwK.take (6 + (i + 1)) := by
        have : i = 0 ∨ i = 1 ∨ i = 2 ∨ i = 3 ∨ i = 4 := by omega
        rcases this with rfl | rfl | rfl | rfl | rfl <;> exact ⟨_, (Option.some.inj hx).symm, by decide +kernel⟩
      refine ⟨.ref p, rfl, .str x0, rfl, p, _, rfl, DPut.k (k := Sum.inr x0) ep hlen, some (.str x0), rfl, ?_, ?_, hp3 _⟩
      · rw [upd_same, ex]
      · rw [upd_ne nlp]
        exact el
    · obtain ⟨y, rfl, ep, el, sm⟩ := hq
      exact ⟨.ref p, rfl, q H3 p sm hp ep⟩
/-! ### deed -/
def spDeed : Sp := fun vs H Q _ => ∃ (a c : Addr) (m : Int), vs = [.ref a, .int m] ∧ 0 < m ∧ m ≤ 100 ∧ WL H a c ∧ ∀ H' r d, DeedOk m d → H' r = some (.tup (dV d)) → WL H' a c → Kp a c H H' → Q (.ref r) H'
theorem ok_deed {f fD fW : Addr} {fd fdD fdW : FuncData} {k : Nat} (F : Fun K "_law_deed" "_law_deed" s_law_deed f fd) (FD : Fun K "_law_draw" "_law_draw" s_law_draw fD fdD) (FW : Fun K "_law_first_words" "_law_first_words" s_law_first_words fW fdW)
    (bD : Binds K fdD ["well", "many"] []) (bW : Binds K fdW [] []) (gD : mg "_law_draw" = some (.ref fD)) (gW : mg "_law_first_words" = some (.ref fW)) (ml : mg "list" = none) (mt : mg "tuple" = none) (mr : mg "range" = none) :
    FnOk P w K mg base CX0 (k + 2) f fd ["well", "ahead"] spDeed := by
  have GD : FnOk P w K mg base CX0 (k + 1) fD fdD ["well", "many"] spDraw := ok_draw FD
  have GW : FnOk P w K mg base CX0 (k + 1) fW fdW [] spFw := ok_fw FW
  refine F.ok sc_law_deed (fun vs H Q E h => ?_) (fun cdv A outer s H vs Q E hr h => ?_)
  · obtain ⟨a, c, m, rfl, _⟩ := h
    rfl
  · obtain ⟨a, c, m, rfl, hm, hm2, hw, q⟩ := h
    refine ⟨_, pss_cons (ps_set (i := 2) sc_law_deed.nd rfl (.inl rfl) (pe_call0 GW hr (by rfl) gW FW.kp bW .nil pass0))
      (pss_cons (ps_set (i := 3) sc_law_deed.nd rfl (.inl rfl) (pe_ix ix_list (pe_callTy (call_list_dK rfl) (by rfl) ml (by decide +kernel) (pa_cons (pv 2) pa_nil)) (pe_call GD hr (by rfl) gD FD.kp bD .nil pass0 (pa_cons (pv 0) (pa_cons pe_int pa_nil))) (fun _ _ => rfl)))
      (pss_one (ps_ret (pe_op op_catT (pe_tup (pa_cons (pv 3) pa_nil)) (pe_callTy call_tuple_of (by rfl) mt (by decide +kernel) (pa_cons
        (pe_lc (own := [("k", 4)]) (g := gName 4) (by rfl) sc_law_deed.nd (pi_range1 (by rfl) mr (pa_cons (pe_dget (hu_of hr) (pv 2) (pv 3) (fun _ _ => rfl)) pa_nil)) (blkOk_by (own := [("k", 4)]) (N := N_law_deed) (sc := defScope s_law_deed) (by decide +kernel))
          (fun _ _ _ _ _ => pg_name (i := 4) sc_law_deed.nd rfl (Or.inl rfl)) (fun _ _ _ _ _ => pts_nil)
          (fun _ _ _ _ _ => pe_call GD hr (by rfl) gD FD.kp bD .nil pass0 (pa_cons (pv 0) (pa_cons (pv 1) pa_nil)))) pa_nil)))))), ?_⟩
    refine ⟨rfl, fun H1 p s1 hp e1 => ?_⟩
    refine ⟨.ref p, rfl, p, _, rfl, e1, fun L hL => ?_⟩
    have w1 : WL H1 a c := hw.same s1
    obtain ⟨nLa, nLc⟩ := w1.ne_new hL
    have nLp : L ≠ p := fun e => by
      rw [e, e1] at hL
      cases hL
    obtain ⟨npa, npc⟩ := hw.ne_new hp
    refine ⟨.ref a, rfl, a, c, 11, rfl, by decide, by decide, w1.upd nLa nLc, fun H2 z z0 z1 w2 k2 => ?_⟩
    obtain ⟨x, n, hmem, n0, n2, hat, hval⟩ := fw_at z0 z1
    have eL2 : H2 L = some (.lst (fwK.map fun kv => kV kv.1)) := k2 _ _ nLa nLc upd_same
    have ep2 : H2 p = some (.dK fwK) := k2 _ _ npa npc (by rw [upd_ne nLp.symm]; exact e1)
    refine ⟨L, _, z, .str x, rfl, rfl, .inl (.inl eL2), hat, ?_⟩
    refine ⟨.str x, rfl, by show 1 ≤ sizeLine; decide, fun U hU => ?_⟩
    obtain ⟨nUa, nUc⟩ := w2.ne_new hU
    have w3 : WL (upd H2 U (.tup [.str x])) a c := w2.upd nUa nUc
    have nUp : p ≠ U := ne_of_none ep2 hU
    refine ⟨.ref p, rfl, .str x, rfl, p, .int n, rfl, ?_, ?_⟩
    · rw [← hval]
      exact DGet.k (k := Sum.inr x) (by rw [upd_ne nUp]; exact ep2)
    have kH : Kp a c H (upd H2 U (.tup [.str x])) := fun b o n1 n2 e => by
      have e3 := k2 b o n1 n2 (by rw [upd_ne (ne_of_none (s1 b o e) hL)]; exact s1 b o e)
      rw [upd_ne (ne_of_none e3 hU)]
      exact e3
    refine ⟨n, rfl, by omega, by omega, fun D hD => ?_⟩
    obtain ⟨nDa, nDc⟩ := w3.ne_new hD
    have eU3 : upd H2 U (.tup [.str x]) U = some (.tup [.str x]) := upd_same
    have nDU : U ≠ D := ne_of_none eU3 hD
    refine lc_range (lo := 0) (n := n.toNat) (fun i H4 => ∃ zs : List Int, zs.length = i ∧ (∀ y ∈ zs, 0 ≤ y ∧ y < m) ∧ H4 D = some (.lst (zs.map V.int)) ∧ H4 U = some (.tup [.str x]) ∧ WL H4 a c ∧ Kp a c H H4) ⟨[], rfl, (fun _ z => nomatch z), upd_same, ?_, w3.upd nDa nDc, kH.trans (Same.kp (same_new hD))⟩ (fun i H4 hi hp => ?_) (fun H4 hp => ?_)
    · rw [upd_ne nDU]
      exact eU3
    · obtain ⟨zs, hz, hb, eD, eU, w4, k4⟩ := hp
      refine ⟨rfl, .ref a, rfl, .int m, rfl, a, c, m, rfl, hm, by omega, w4, fun H5 y y0 y1 w5 k5 => ?_⟩
      have eD5 := k5 _ _ nDa nDc eD
      refine ⟨_, eD5, ?_, zs ++ [y], ?_, ?_, ?_, ?_, w5.upd nDa nDc, ?_⟩
      · rw [List.length_map]
        exact small1000 (by omega)
      · rw [List.length_append, hz]
        rfl
      · intro y' hy'
        rcases List.mem_append.mp hy' with h | h
        · exact hb y' h
        · rw [List.mem_singleton.mp h]
          exact ⟨y0, y1⟩
      · rw [upd_same, List.map_append]
        rfl
      · rw [upd_ne nDU]
        exact k5.tup w4 eU
      · intro b o n1 n2 e
        have nbD : b ≠ D := by
          intro z
          have z1 := kH b o n1 n2 e
          rw [z, hD] at z1
          cases z1
        rw [upd_ne nbD]
        exact k5 b o n1 n2 (k4 b o n1 n2 e)
    · obtain ⟨zs, hz, hb, eD, eU, w4, k4⟩ := hp
      refine ⟨D, _, rfl, .inl ⟨.inl (.inl eD), fun T hT => ?_⟩⟩
      obtain ⟨nTa, nTc⟩ := w4.ne_new hT
      have sT : Same H4 (upd H4 T (.tup (zs.map V.int))) := same_new hT
      have eU6 : upd H4 T (.tup (zs.map V.int)) U = some (.tup [.str x]) := sT _ _ eU
      have hl : (zs.length : Int) = n := by omega
      have ok : DeedOk m (x, zs) := ⟨by rw [show ((x, zs) : Deed).2.length = zs.length from rfl, hl]; exact hmem, hb⟩
      refine ⟨U, T, _, _, rfl, rfl, SqT.of eU6, SqT.of upd_same, (fun z => nomatch z), ?_, fun e => ?_, fun e p hp => ?_⟩
      · rw [List.length_map]
        exact Nat.le_of_lt (small1000 (by show 1 + zs.length ≤ 1000; omega))
      · have e0 : zs = [] := List.map_eq_nil_iff.mp e
        refine q _ U (x, zs) ok ?_ (w4.upd nTa nTc) (k4.trans (Same.kp sT))
        rw [e0]
        rw [e0] at eU6
        exact eU6
      · have w6 := w4.upd (o := .tup (zs.map V.int)) nTa nTc
        obtain ⟨n1, n2⟩ := w6.ne_new hp
        exact q _ p (x, zs) ok upd_same (w6.upd n1 n2) ((k4.trans (Same.kp sT)).trans (Same.kp (same_new hp)))
/-! ### row -/
def spRow : Sp := fun vs H Q _ => ∃ (a c : Addr) (m n : Int), vs = [.ref a, .int m, .int n] ∧ 1 ≤ m ∧ m ≤ 3 ∧ 0 ≤ n ∧ n ≤ 8 ∧ WL H a c ∧
  ∀ H' R ds o, RowAt H' R m ds o → RowOk m ds o → (ds.length : Int) ≤ n → WL H' a c → Kp a c H H' → Q (.ref R) H'
theorem ok_row {f fD fE : Addr} {fd fdD fdE : FuncData} {k : Nat} (F : Fun K "_law_row" "_law_row" s_law_row f fd) (GD : FnOk P w K mg base CX0 (k + 1) fD fdD ["well", "many"] spDraw) (kD : PySem.W.keepIn K (.ref fD) = true)
    (GE : FnOk P w K mg base CX0 (k + 2) fE fdE ["well", "ahead"] spDeed) (kE : PySem.W.keepIn K (.ref fE) = true)
    (bD : Binds K fdD ["well", "many"] []) (bE : Binds K fdE ["well", "ahead"] []) (gD : mg "_law_draw" = some (.ref fD)) (gE : mg "_law_deed" = some (.ref fE)) (mt : mg "tuple" = none) (mr : mg "range" = none) :
    FnOk P w K mg base CX0 (k + 3) f fd ["well", "many", "most"] spRow := by
  refine F.ok sc_law_row (fun vs H Q E h => ?_) (fun cdv A outer s H vs Q E hr h => ?_)
  · obtain ⟨a, c, m, n, rfl, _⟩ := h
    rfl
  · obtain ⟨a, c, m, n, rfl, hm, hm2, hn, hn2, hw, q⟩ := h
    have hr1 := hr.mono (show k + 1 ≤ k + 2 by omega)
    refine ⟨_, pss_cons (ps_set (i := 3) sc_law_row.nd rfl (.inl rfl) (pe_call GD hr1 (by rfl) gD kD bD .nil pass0 (pa_cons (pv 0) (pa_cons (pe_op op_add (pv 2) pe_int) pa_nil))))
      (pss_cons (ps_set (i := 4) sc_law_row.nd rfl (.inl rfl) (pe_cmpR op_gt (pe_call GD hr1 (by rfl) gD kD bD .nil pass0 (pa_cons (pv 0) (pa_cons pe_int pa_nil))) pe_int (nomark _)))
      (pss_cons (ps_set (i := 5) sc_law_row.nd rfl (.inl rfl) (pe_lst pa_nil))
      (pss_cons (ps_for PassesOwn.never rfl (pi_range1 (by rfl) mr (pa_cons (pv 3) pa_nil)) (pg_name (i := 6) sc_law_row.nd rfl (.inl rfl))
        (pss_one (ps_expr (pe_bm PySem.F.plainAttrs_list PySem.F.slot_list_append PySem.F.type_list_append mt_append (pv 5) (pa_cons (pe_call GE hr (by rfl) gE kE bE .nil pass0 (pa_cons (pv 0) (pa_cons (pe_op op_add (pv 1) (pv 6)) pa_nil))) pa_nil)))))
      (pss_cons (ps_set (i := 7) sc_law_row.nd rfl (.inl rfl) (pe_op op_sub (pe_op op_add (pv 1) (pv 3)) pe_int))
      (pss_mid (ps_if (pt_not (pt_val (pv 4))) (pss_one (ps_set (i := 7) sc_law_row.nd rfl (.inl rfl) (pe_call GD hr1 (by rfl) gD kD bD .nil pass0 (pa_cons (pv 0) (pa_cons (pe_op op_add (pv 1) (pv 3)) pa_nil))))) pss_nil)
      (pss_one (ps_ret (pe_tup (pa_cons (pv 1) (pa_cons (pe_callTy call_tuple_of (by rfl) mt (by decide +kernel) (pa_cons (pv 5) pa_nil)) (pa_cons (pv 7) pa_nil))))))))))), ?_⟩
    refine ⟨.ref a, rfl, .int n, rfl, n, 1, rfl, rfl, a, c, n + 1, rfl, by omega, by omega, hw, fun H1 sz z0 z1 w1 k1 => ?_⟩
    refine ⟨.ref a, rfl, a, c, 4, rfl, by decide, by decide, w1, fun H2 la l0 l1 w2 k2 => ?_⟩
    refine ⟨la, 0, rfl, rfl, Nat.zero_le _, fun D hD => ?_⟩
    obtain ⟨nDa, nDc⟩ := w2.ne_new hD
    have kH : Kp a c H H2 := k1.trans k2
    refine ⟨.int sz, rfl, sz, rfl, by omega, by omega, for_range (lo := 0) (n := sz.toNat) (fun i σ H3 => ∃ y rs ds, σ = [some (.ref a), some (.int m), some (.int n), some (.int sz), some (.bl (decide (la > 0))), some (.ref D), y, none] ∧ H3 D = some (.lst (rs.map V.ref)) ∧ DsAt H3 rs ds ∧ ds.length = i ∧ DsOk m ds ∧ WL H3 a c ∧ Kp a c H H3)
      ⟨none, [], [], rfl, upd_same, .nil, rfl, ⟨fun k d e => by simp at e⟩, w2.upd nDa nDc, kH.trans (Same.kp (same_new hD))⟩ (fun i σ H3 hi hp => ?_) (fun σ H3 hp => ?_)⟩
    · obtain ⟨y, rs, ds, rfl, eD, hd, hl, ok, w3, k3⟩ := hp
      refine ⟨.ref D, rfl, .inl ⟨rfl, _, .inl (.inl eD)⟩, .ref a, rfl, .int m, rfl, .int (0 + i), rfl, m, 0 + i, rfl, rfl, a, c, _, rfl, by omega, by omega, w3, fun H4 r d hok er w4 k4 => ?_⟩
      have eD4 := k4 _ _ nDa nDc eD
      refine ⟨D, _, _, rfl, rfl, eD4, ?_, some (.int (0 + i)), rs ++ [r], ds ++ [d], rfl, ?_, ?_, ?_, ?_, w4.upd nDa nDc, ?_⟩
      · rw [List.length_map, awLen hd]
        exact small1000 (by omega)
      · rw [upd_same, List.map_append]
        rfl
      · exact (tups_put eD4).ds (awSnoc (F := fun r d => H4 r = some (.tup (dV d))) er ((k4.tups w3).ds hd))
      · rw [List.length_append, hl]
        rfl
      · refine dsOk_snoc ok ?_
        rw [hl]
        have : m + (0 + (i : Int)) = m + i := by omega
        rw [this] at hok
        exact hok
      · intro b o n1 n2 e
        have nbD : b ≠ D := by
          intro z
          have z1 := kH b o n1 n2 e
          rw [z, hD] at z1
          cases z1
        rw [upd_ne nbD]
        exact k4 b o n1 n2 (k3 b o n1 n2 e)
    · obtain ⟨y, rs, ds, rfl, eD, hd, hl, ok, w3, k3⟩ := hp
      refine ⟨.int m, rfl, .int sz, rfl, m, sz, rfl, rfl, _, 1, rfl, rfl, ?_⟩
      refine ⟨fun σ4 H4 => ∃ o, σ4 = [some (.ref a), some (.int m), some (.int n), some (.int sz), some (.bl (decide (la > 0))), some (.ref D), y, some (.int o)] ∧ 0 ≤ o ∧ o < m + sz ∧ H4 D = some (.lst (rs.map V.ref)) ∧ DsAt H4 rs ds ∧ WL H4 a c ∧ Kp a c H H4, ?_, ?_⟩
      · refine ⟨_, rfl, _, rfl, ?_⟩
        by_cases hla : la > 0
        · rw [decide_eq_true hla]
          exact ⟨m + sz - 1, rfl, by omega, by omega, eD, hd, w3, k3⟩
        · rw [decide_eq_false hla]
          refine ⟨.ref a, rfl, .int m, rfl, .int sz, rfl, m, sz, rfl, rfl, a, c, _, rfl, by omega, by omega, w3, fun H4 o o0 o1 w4 k4 => ?_⟩
          exact ⟨o, rfl, o0, o1, k4 _ _ nDa nDc eD, (k4.tups w3).ds hd, w4, k3.trans k4⟩
      · rintro σ4 H4 ⟨o, rfl, o0, o1, eD4, hd4, w4, k4⟩
        refine ⟨.int m, rfl, .ref D, rfl, D, _, rfl, .inl ⟨.inl (.inl eD4), fun T hT => ?_⟩⟩
        refine ⟨.int o, rfl, by show 3 ≤ sizeLine; decide, fun R hR => ?_⟩
        have s1 : Same H4 (upd H4 T (.tup (rs.map V.ref))) := same_new hT
        have s2 := same_new (o := .tup [.int m, .ref T, .int o]) hR
        obtain ⟨n1, n2⟩ := w4.ne_new hT
        have w5 := w4.upd (o := .tup (rs.map V.ref)) n1 n2
        obtain ⟨n3, n4⟩ := w5.ne_new hR
        refine q _ R ds o ⟨T, rs, upd_same, s2 _ _ upd_same, (Same.tups (s1.trans s2)).ds hd4⟩ ⟨hm, hm2, by omega, ok, o0, by omega⟩ (by omega) (w5.upd n3 n4) (k4.trans (Same.kp (s1.trans s2)))
/-! ### an exception that was caught, held beyond the clause -/
section excs
/-- an exception object of the class cls at a, raised or not -/
def ExR (cls : Value) (a : Addr) : HO := .ext fun h => ∃ (oe : Obj) (vs : Array Value), h.get? a = some oe ∧ Zc cls none oe ∧ oe.data = .fields vs
theorem exR_ok {P : Program} {w : World} {H : Hp} {h : Heap} {a : Addr} {cls : Value} {oe : Obj} {vs : Array Value} (e : h.get? a = some oe) (z : Zc cls none oe) (d : oe.data = .fields vs) : ObjOk P w H h a (ExR cls a) :=
  ⟨⟨oe, vs, e, z, d⟩, ⟨oe, e⟩, fun _ _ ⟨o, v, q, r⟩ k => ⟨o, v, k o q, r⟩⟩
theorem inv_track {X : Cx} {pins : List (Addr × Obj)} {σ : L2.St} {H : Hp} {s : Shared} {a : Addr} {cls : Value} {oe : Obj} {vs : Array Value} (I : Inv X pins σ H s) (na : H a = none) (ha : s.heap.get? a = some oe) (hz : Zc cls none oe) (hd : oe.data = .fields vs)
    (nL : a ≠ X.env.locals) (n0 : ∀ o, X.s_0.heap.get? a = some o → a ∈ X.ex) (np : ∀ p ∈ X.pn ++ pins, p.1 ≠ a) : Inv X pins σ (upd H a (ExR cls a)) s := by
  refine ⟨I.ok, I.os, I.bare, ⟨I.base.keep, I.base.slot, fun b o e n hx => ?_, I.base.there, fun b xs e => ?_, fun b o u e => ?_, fun b ps e => ?_⟩, I.loc, I.cell, ?_, fun x c e => ?_, fun p hp => ?_, fun b u e => ?_, I.len⟩
  · have nb : b ≠ a := fun z => by
      subst z
      exact hx (n0 o e)
    rw [upd_ne nb]
    exact I.base.free b o e n hx
  · have z := I.base.tups b xs e
    rw [upd_ne (ne_of_none z na)]
    exact z
  · have z := I.base.frzs b o u e
    rw [upd_ne (ne_of_none z na)]
    exact z
  · obtain ⟨more, z⟩ := I.base.tbls b ps e
    exact ⟨more, by rw [upd_ne (ne_of_none z na)]; exact z⟩
  · rw [upd_ne nL.symm]
    exact I.free
  · have nc : c ≠ a := fun z => by
      subst z
      obtain ⟨v, o, h1, h2⟩ := I.cell x c e
      rw [ha] at h1
      cases h1
      rw [hd] at h2
      cases h2
    rw [upd_ne nc]
    exact I.freeC x c e
  · obtain ⟨h1, h2, h3⟩ := I.pin p hp
    exact ⟨h1, by rw [upd_ne (np p hp)]; exact h2, h3⟩
  · by_cases hb : b = a
    · subst hb
      rw [upd_same] at e
      cases e
      exact exR_ok ha hz hd
    · rw [upd_ne hb] at e
      exact (I.hok b u e).stay (fun c v _ q => q) (fun c q => by rw [upd_ne (ne_of_none q na)]; exact q) fun c xs q => by rw [upd_ne (ne_of_none q na)]; exact q
def wAsT (K : PySem.W.Frag) (c : Value) (i : Nat) (ts : Addr → Value → Option Addr → TS) (Wout : WX) (D : Ends) : WX := fun cls d σ H =>
  ∃ b, PySem.W.exmOne K cls c = some b ∧ (b = true → d = none ∧ ∀ a, H a = none → ts a cls d { nx := fun σ' H' => D.nx (σ'.set i none) (upd H' a (ExR cls a)), rt := D.rt, bk := fun σ' H' => D.bk (σ'.set i none) H', ct := fun σ' H' => D.ct (σ'.set i none) H' } (σ.set i (some (.ref a))) H) ∧
    (b = false → Wout cls d σ H)
theorem ps_try_asT {X : Cx} {x n : Str} {c : Value} {i : Nat} {body suite : List Stmt} {b₀ : Stmt} {np pos pos' : Pos} {tb : WX → TS} {ts : Addr → Value → Option Addr → TS} {Wout : WX} (hs : X.stack = X.env :: X.outer) (hf : X.env.frame = some X.env.locals) (hN : X.N.Nodup) (hi : X.N[i]? = some n) (hln : X.env.kindOf n = some .local) (hc : Names X x c) (tk : Takes X Wout)
    (hb : ∀ (W : WX) (pn : List (Addr × Obj)) (xe : Value → Shared → Prop), Takes (X.tr pn xe) W → PassesOwn (model X.prog X.w) X.A X.env xe → PSs (X.tr pn xe) body (tb W))
    (hsu : ∀ (a : Addr) (oe : Obj) (cls : Value) (d : Option Addr) (pn : List (Addr × Obj)), Zc cls d oe → (∃ vs, oe.data = .fields vs) → PSs (X.suite a ((a, oe) :: pn)) (b₀ :: suite) (ts a cls d)) :
    PS X (.Try body [.ExceptHandler (some (.Name x np)) (some n) (b₀ :: suite) pos'] [] [] pos) (fun D σ H => tb (wAsT X.K c i ts Wout D) D σ H) := by
  refine ⟨fun pins s σ H D I h => ?_⟩
  have ok := I.ok
  have hfr : X.A.frames = some (X.env :: X.outer) := by rw [ok.frames, hs]
  have hloc : Loc X.env.scope n := .inl hln
  refine wpAny_Try_except ?_
  refine wpAny_mono ((hb (wAsT X.K c i ts Wout D) (X.pn ++ pins) (fun e s₁ => wpAny (model X.prog X.w) X.A (noteFrame e X.env) (fun _ s₂ => wpAny (model X.prog X.w) X.A (setFlight e none) (fun _ s₃ =>
    wpAny (model X.prog X.w) X.A (handleBy e X.env [.ExceptHandler (some (.Name x np)) (some n) (b₀ :: suite) pos']) (SP X pins D) X.xe s₃) X.xe s₂) X.xe s₁) (fun u s' xx => ?_) PassesOwn.looking).run [] s σ H D (I.toTry _) h) (fun f s1 hsp => ?_) (fun e s1 he => he)
  · obtain ⟨a, B, sI, pins', σ', H', cls, d, rfl, J', nb, up, sky, na, os, ag, b, hb1, hyes, hno⟩ := xx
    have J : Inv X pins σ' H' sI := J'.ofTry ok
    have sky' : Sky B (X.env :: X.outer) a (Zc cls d) X.env.locals s'.heap := by rw [← hs]; exact sky
    show wpAny (model X.prog X.w) X.A (noteFrame (.ref a) X.env) _ _ _
    refine Sky.land Zc.steady hfr hf sky' fun h3 fl3 up3 => ?_
    have J3 : Inv X pins σ' H' { s' with heap := h3 } := J.landed nb fl3.1 (up.trans up3) os ag
    obtain ⟨oe3, vs3, he3, hz3, hd3⟩ := fl3.there
    have notFr : ∀ {h : Heap} {o : Obj} {vs : Array Value}, h.FunFrames B (X.env :: X.outer) → h.get? a = some o → o.data = .fields vs → a ∉ frs (X.env :: X.outer) := fun {h o vs} ff e dd hm => by
      obtain ⟨_, o', e', hnf⟩ := ff.mem hm
      rw [e] at e'; cases e'
      exact hnf _ dd
    have nfr := notFr fl3.2.2.1 he3 hd3
    have nL : a ≠ X.env.locals := fun z => nfr (List.mem_filterMap.mpr ⟨X.env, List.mem_cons_self, by rw [hf, z]⟩)
    have nF : a ∉ X.fs := fun hm => by
      obtain ⟨e, he, q⟩ := List.mem_filterMap.mp hm
      exact nfr (List.mem_filterMap.mpr ⟨e, List.mem_cons_of_mem _ he, q⟩)
    have nI : ∀ o, sI.heap.get? a = some o → False := fun o e => by
      have z := nb a o e (by rw [hs]; exact nfr)
      have z2 : B.get? a = none := fl3.2.1
      rw [z2] at z
      cases z
    have n0 : ∀ o, X.s_0.heap.get? a = some o → a ∈ X.ex := fun o e => by
      by_cases hx : a ∈ X.ex
      · exact hx
      · obtain ⟨o', e'⟩ := J.base.there a o e hx
        exact (nI o' e').elim
    have np' : ∀ p ∈ X.pn ++ pins, p.1 ≠ a := fun p hp z => by
      have := (J.pin p hp).1
      rw [z] at this
      exact nI _ this
    have S3 := J3.suite he3 hd3 na nL nF
    refine wpAny_handleBy_cons (codeAny_handlers_test ?_) (by intro q; cases q)
    have LT : PySem.W.Looks (model X.prog X.w) h3 (typeOf (.ref a)) cls := fun A Q E s k q => wpAny_typeOf_ref (k _ _ he3) (by rw [hz3.1]; exact q)
    have LM := PySem.W.exm_one (M := model X.prog X.w) (J3.kIn) LT hb1
    have test : ∀ {Q : Value → Shared → Prop} {E : Value → Shared → Prop}, Q c { s' with heap := h3 } → wpAny (model X.prog X.w) (X.A.mark (some (.ref a))) (eval (.Name x np) X.env) Q E { s' with heap := h3 } := fun {Q E} q => by
      obtain ⟨hg, hdbg, hm | ⟨hm, hv, hnn⟩⟩ := hc
      · exact ld_glob (X := X.suite a ((a, oe3) :: (X.pn ++ pins))) S3 hg hm q hdbg
      · exact ld_blt (X := X.suite a ((a, oe3) :: (X.pn ++ pins))) S3 hg hm hv q hnn hdbg
    refine test (LM.here ?_)
    cases b with
    | true =>
      obtain ⟨dn, hyes⟩ := hyes rfl
      refine codeAny_handlers_suite_as ?_
      refine HandSPX.lands_againZ fl3 fun h4 fl4 up4 => ?_
      have J4 : Inv X pins σ' H' { s' with heap := h4 } := J.landed nb fl4.1 ((up.trans up3).trans up4) os ag
      obtain ⟨oe4, vs4, he4, hz4, hd4⟩ := fl4.there
      have S4 := J4.suite he4 hd4 na nL nF
      refine store_ok (X := X.suite a ((a, oe4) :: (X.pn ++ pins))) (v := .ref a) S4 hN hi hloc rfl (fun s5 S5 => ?_) (.inr hln)
      refine wpAny_mono ((hsu a oe4 cls d (X.pn ++ pins) hz4 ⟨_, hd4⟩).run [] s5 _ H' _ S5 (hyes a na)) (fun f s6 hsp => ?_) (fun _ _ z => False.elim z)
      have end_ : ∀ {σ6 : L2.St} {H6 : Hp} {Q : Shared → Prop}, Inv (X.suite a ((a, oe4) :: (X.pn ++ pins))) [] σ6 H6 s6 → (∀ s7, Inv X pins (σ6.set i none) H6 s7 → Q s7) →
          wpAny (model X.prog X.w) X.A (do bindName X.env n .none; unbindBehindTheSuite X.env n pos') (fun _ s7 => Q s7) X.xe s6 := fun {σ6 H6 Q} S6 hq => gone_ok (S6.unsuite ok) hN hi hln hq
      cases f with
      | next =>
        obtain ⟨σ6, H6, S6, q6⟩ := hsp
        obtain ⟨p1, p2, _⟩ := S6.pin (a, oe4) (List.mem_append_left _ List.mem_cons_self)
        have T6 : Inv X pins σ6 (upd H6 a (ExR cls a)) s6 := inv_track (S6.unsuite ok) p2 p1 (by rw [dn] at hz4; exact hz4) hd4 nL n0 np'
        exact gone_ok T6 hN hi hln fun s7 J7 => ⟨_, _, J7, q6⟩
      | brk =>
        obtain ⟨σ6, H6, S6, q6⟩ := hsp
        exact end_ S6 fun s7 J7 => ⟨_, _, J7, q6⟩
      | cont =>
        obtain ⟨σ6, H6, S6, q6⟩ := hsp
        exact end_ S6 fun s7 J7 => ⟨_, _, J7, q6⟩
      | ret u =>
        obtain ⟨v6, σ6, H6, S6, r6, q6⟩ := hsp
        exact end_ S6 fun s7 J7 => ⟨_, _, _, J7, r6, q6⟩
    | false =>
      show wpAny _ X.A (handleBy (.ref a) X.env []) _ _ _
      refine wpAny_handleBy_nil ?_
      obtain ⟨k1, k2, k3, oe, vs, T, oT, ts', he, hz, hd, h1, hr⟩ := id fl3
      unfold PySem.passOn
      refine wpAny_bind (wpAny_field he hd h1 ?_)
      rw [if_neg (show ¬ ((Value.ref T == Value.none) = true) from by simp)]
      have fin : wpAny (model X.prog X.w) X.A (setFlight (.ref a) X.env.frame) (fun _ s4 => wpAny (model X.prog X.w) X.A (throw (.ref a) : Sem Flow) (SP X pins D) X.xe s4) X.xe { s' with heap := h3 } := by
        rw [hf]
        refine HandSPX.setFlight_upZ fl3 fun h4 hh4 up4 => wpAny_throw (tk _ _ ?_)
        exact ⟨a, B, sI, pins, σ', H', cls, d, rfl, J, nb, (up.trans up3).trans up4, .inr (.inr (by rw [hs]; exact hh4)), na, os, ag, hno rfl⟩
      first
        | exact wpAny_bind (wpAny_pure (wpAny_bind fin))
        | exact wpAny_bind fin
  · cases f with
    | next =>
      obtain ⟨σ', H', J', q⟩ := hsp
      exact wpAny_execs_nil ⟨σ', H', J'.ofTry ok, q⟩
    | brk =>
      obtain ⟨σ', H', J', q⟩ := hsp
      exact ⟨σ', H', J'.ofTry ok, q⟩
    | cont =>
      obtain ⟨σ', H', J', q⟩ := hsp
      exact ⟨σ', H', J'.ofTry ok, q⟩
    | ret u =>
      obtain ⟨v, σ', H', J', r, q⟩ := hsp
      exact ⟨v, σ', H', J'.ofTry ok, r, q⟩
/-- isinstance of a caught exception -/
def rIsR (K : PySem.W.Frag) : List V → Hp → VK → Prop := fun xs H Q => ∃ (a D : Addr) (c : V) (cv : Value) (b : Bool), xs = [.ref a, c] ∧ H a = some (ExR (.ref D) a) ∧ ExcC K D ∧ ClsV c cv ∧ PySem.W.kitOne K (.ref D) cv = some b ∧ Q (.bl b) H
theorem inst_at {X : Cx} {pins : List (Addr × Obj)} {σ : L2.St} {H : Hp} {s : Shared} {a D : Addr} (I : Inv X pins σ H s) (ha : H a = some (ExR (.ref D) a)) : ∃ oe, PySem.W.InstAt s.heap a oe D none := by
  obtain ⟨⟨oe, vs, hget, ⟨z1, z2⟩, hv⟩, _, _⟩ := I.hok a _ ha
  refine ⟨oe, ?_⟩
  obtain ⟨oc, od, oda, osl⟩ := oe
  dsimp only at z1 z2 hv
  subst z1 z2 hv
  exact ⟨hget, rfl, rfl, trivial⟩
theorem call_isR {X : Cx} : CallR X (.builtin "isinstance") (rIsR X.K) := by
  intro pins s σ H xs us Q I r h
  obtain ⟨a, D, c, cv, b, rfl, ha, hD, hc, hk, q⟩ := h
  obtain ⟨oe, J⟩ := inst_at I ha
  obtain ⟨u1, u2, rfl, r1, r2⟩ := vals2 r
  cases (show u1 = Value.ref a from r1)
  obtain rfl := ClsV.eq hc r2
  exact PySem.W.kia_one (PySem.W.handS_kitx_exc hD.hg hD.hk hD.hs hD.hd hD.ha hD.hn hD.ht hD.hm) I.kIn J hk (fun z => nomatch z) fun tk => ⟨.bl b, H, I.kept (t' := tk) fun _ _ z => z, rfl, q⟩
def rIsRT (K : PySem.W.Frag) : List V → Hp → VK → Prop := fun xs H Q => ∃ (a D tp : Addr) (cs : List V) (ws : List Value) (b : Bool), xs = [.ref a, .ref tp] ∧ H a = some (ExR (.ref D) a) ∧ ExcC K D ∧ H tp = some (.tup cs) ∧ Paired ClsV cs ws ∧ PySem.W.kitAny K (.ref D) ws = some b ∧ Q (.bl b) H
theorem call_isRT {X : Cx} : CallR X (.builtin "isinstance") (rIsRT X.K) := by
  intro pins s σ H xs us Q I r h
  obtain ⟨a, D, tp, cs, ws, b, rfl, ha, hD, hT, k, e, q⟩ := h
  obtain ⟨oe, J⟩ := inst_at I ha
  obtain ⟨u1, u2, rfl, r1, r2⟩ := vals2 r
  cases (show u1 = Value.ref a from r1)
  cases (show u2 = Value.ref tp from r2)
  obtain ⟨_, its, rv, o, h1, h2, n, h3⟩ := (show ObjOk X.prog X.w H s.heap tp (.tup cs) from I.hok tp _ hT)
  have e3 := ClsV.all k rv
  subst e3
  obtain ⟨oc, od, dt, sl⟩ := o
  simp only at h2 h3
  subst h2 h3
  exact PySem.W.kia_tup (PySem.W.handS_kitx_exc hD.hg hD.hk hD.hs hD.hd hD.ha hD.hn hD.ht hD.hm) I.kIn J h1 e (fun z => nomatch z) fun tk => ⟨.bl b, H, I.tok tk, rfl, q⟩
end excs
/-! ### renumbered -/
def renD (nu : List Int) (d : Deed) : Deed := (d.1, d.2.map fun z => nu.getD z.toNat 0)
theorem fw_len {m : Int} {d : Deed} (h : DeedOk m d) : d.2.length ≤ 2 := by
  have := (fw_short _ h.word).2.2
  have e2 : (d.2.length : Int) ≤ 2 := this
  omega
def spRen (K : PySem.W.Frag) : Sp := fun vs H Q _ => ∃ (r L : Addr) (d : Deed) (nu : List Int), vs = [.ref r, .ref L] ∧ H r = some (.tup (dV d)) ∧ DeedOk nu.length d ∧ SqL K H L (nu.map V.int) ∧
  ∀ H' r', Same H H' → H' r' = some (.tup (dV (renD nu d))) → Q (.ref r') H'
theorem ok_ren {f : Addr} {fd : FuncData} {k : Nat} (F : Fun K "renumbered" "renumbered" s_renumbered f fd) (mt : mg "tuple" = none) : FnOk P w K mg base CX0 (k + 1) f fd ["deed", "numbers"] (spRen K) := by
  refine F.ok sc_renumbered (fun vs H Q E h => ?_) (fun cdv A outer s H vs Q E hr h => ?_)
  · obtain ⟨r, L, d, nu, rfl, _⟩ := h
    rfl
  · obtain ⟨r, L, d, nu, rfl, er, okd, eL, q⟩ := h
    refine ⟨_, pss_one (ps_ret (pe_op op_catZ (pe_tup (pa_cons (pe_ix ix_tup (pv 0) pe_int (fun _ _ => rfl)) pa_nil)) (pe_callTy call_tuple_of (by rfl) mt (by decide +kernel) (pa_cons
      (pe_lc (own := [("number", 2)]) (g := gName 2) (by rfl) sc_renumbered.nd (pi_tup (pe_slice sl_tup (pv 0) (po_some pe_int) po_none)) (blkOk_by (own := [("number", 2)]) (N := N_renumbered) (sc := defScope s_renumbered) (by decide +kernel))
        (fun _ _ _ _ _ => pg_name (i := 2) sc_renumbered.nd rfl (Or.inl rfl)) (fun _ _ _ _ _ => pts_nil) (fun _ _ _ _ _ => pe_ix (r := rIxL K) ix_list (pv 1) (pv 2) (fun _ _ => rfl))) pa_nil)))), ?_⟩
    have d2 := fw_len okd
    refine ⟨.ref r, rfl, r, _, 0, .str d.1, rfl, rfl, SqT.of er, dv0 d, (by show 1 ≤ sizeLine; decide), fun U hU => ?_⟩
    have sU := same_new (o := .tup [.str d.1]) hU
    have er1 := sU _ _ er
    refine ⟨.ref r, rfl, 1, rfl, r, dV d, rfl, SqT.of er1, notWhole _ _, fun T hT => ?_⟩
    have eT : cutV (dV d) (some 1) none = d.2.map V.int := cutTail _ _
    rw [eT]
    have sT := sU.trans (same_new (o := .tup (d.2.map V.int)) hT)
    have eU1 : upd (upd H U (.tup [.str d.1])) T (.tup (d.2.map V.int)) U = some (.tup [.str d.1]) := same_new hT _ _ upd_same
    obtain ⟨H3, hH3⟩ : ∃ H3, H3 = upd (upd H U (.tup [.str d.1])) T (.tup (d.2.map V.int)) := ⟨_, rfl⟩
    have eT3 : H3 T = some (.tup (d.2.map V.int)) := by rw [hH3]; exact upd_same
    rw [← hH3] at sT eU1 ⊢
    refine ⟨T, rfl, ⟨_, SqT.of eT3⟩, fun C hC => ?_⟩
    have sC : ∀ o, Same H3 (upd H3 C o) := fun o => same_new hC
    refine lc_tup (K := K) (a := T) (xs := d.2.map V.int) (fun j H4 => H4 = upd H3 C (.lst (((d.2.take j).map fun z => nu.getD z.toNat 0).map V.int))) rfl (fun j H4 _ hp => ?_) (fun j x H4 hx hp => ?_) (fun H4 hp => ?_)
    · rw [hp]
      exact SqT.of (sC _ _ _ eT3)
    · obtain ⟨z, hz, rfl⟩ : ∃ z, d.2[j]? = some z ∧ x = .int z := by
        rw [List.getElem?_map] at hx
        cases e : d.2[j]? with
        | none => rw [e] at hx; cases hx
        | some z => rw [e] at hx; exact ⟨z, rfl, (Option.some.inj hx).symm⟩
      obtain ⟨z0, z1⟩ := okd.ahead z (List.mem_of_getElem? hz)
      subst hp
      refine ⟨rfl, .ref L, rfl, .int z, rfl, L, _, z, _, rfl, rfl, (sT.trans (sC _)).seq eL, atI_ints z0 z1, _, upd_same, ?_, ?_⟩
      · rw [List.length_map, List.length_map, List.length_take]
        exact small1000 (by omega)
      · rw [upd_upd, List.take_add_one, hz]
        simp
    · have eC : H4 C = some (.lst ((renD nu d).2.map V.int)) := by
        rw [hp, upd_same, List.length_map, List.take_length]
        rfl
      have s4 : Same H3 H4 := by rw [hp]; exact sC _
      refine ⟨C, _, rfl, .inl ⟨.inl (.inl eC), fun Z hZ => ?_⟩⟩
      have sZ := same_new (o := .tup ((renD nu d).2.map V.int)) hZ
      refine ⟨U, Z, _, _, rfl, rfl, sZ _ _ (s4 _ _ eU1), upd_same, ?_, fun p H5 s5 e5 => ?_⟩
      · rw [List.length_map]
        show 1 + (d.2.map _).length ≤ sizeLine
        rw [List.length_map]
        exact Nat.le_of_lt (small1000 (by omega))
      · exact q H5 p (sT.trans (s4.trans (sZ.trans s5))) e5
theorem ren_ok {nu : List Int} {d : Deed} {m : Int} (h : DeedOk nu.length d) (hn : ∀ x ∈ nu, 0 ≤ x ∧ x < m) : DeedOk m (renD nu d) := by
  refine ⟨?_, ?_⟩
  · show (d.1, ((d.2.map _).length : Int)) ∈ fwL
    rw [List.length_map]
    exact h.word
  · intro i hi
    obtain ⟨z, hz, rfl⟩ := List.mem_map.mp hi
    obtain ⟨z0, z1⟩ := h.ahead z hz
    have hk : z.toNat < nu.length := by omega
    rw [List.getD_eq_getElem?_getD, List.getElem?_eq_getElem hk]
    exact hn _ (List.getElem_mem hk)
/-! ### put_behind -/
/-- the numbers of a row's values behind others -/
def nuL (inp : List Int) (st : Int) (n : Nat) : List Int := inp ++ (List.range n).map fun (k : Nat) => st + (k : Int)
theorem nuL_len (inp : List Int) (st : Int) (n : Nat) : (nuL inp st n).length = inp.length + n := by
  unfold nuL
  rw [List.length_append, List.length_map, List.length_range]
theorem nuL_in {inp : List Int} {st : Int} {n : Nat} {m : Int} (h : ∀ x ∈ inp, 0 ≤ x ∧ x < m) (h0 : 0 ≤ st) (h1 : st + n ≤ m) : ∀ x ∈ nuL inp st n, 0 ≤ x ∧ x < m := by
  intro x hx
  rcases List.mem_append.mp hx with hx | hx
  · exact h x hx
  · obtain ⟨k, hk, rfl⟩ := List.mem_map.mp hx
    have := List.mem_range.mp hk
    omega
theorem ints_nuL (inp : List Int) (st : Int) (n : Nat) : inp.map V.int ++ rgV st (st + n) = (nuL inp st n).map V.int := by
  unfold nuL rgV
  rw [List.map_append, List.map_map]
  have : (st + (n : Int) - st).toNat = n := by omega
  rw [this]
  rfl
def spPb (K : PySem.W.Frag) : Sp := fun vs H Q _ => ∃ (D0 R I : Addr) (m m2 o : Int) (rs0 : List Addr) (ds0 ds : List Deed) (inp : List Int), vs = [.int m, .ref D0, .ref R, .ref I] ∧ H D0 = some (.tup (rs0.map V.ref)) ∧ DsAt H rs0 ds0 ∧ RowAt H R m2 ds o ∧ H I = some (.lst (inp.map V.int)) ∧
  (inp.length : Int) = m2 ∧ DsOk m2 ds ∧ 0 ≤ o ∧ o < m2 + ds.length ∧ 0 ≤ m ∧ m ≤ 100 ∧ ds0.length ≤ 100 ∧ ds.length ≤ 100 ∧ inp.length ≤ 100 ∧
  ∀ H' T D1 rs1, Same H H' → H' T = some (.tup [.ref D1, .int ((nuL inp (m + ds0.length) ds.length).getD o.toNat 0)]) → H' D1 = some (.tup (rs1.map V.ref)) → DsAt H' rs1 (ds0 ++ ds.map (renD (nuL inp (m + ds0.length) ds.length))) → Q (.ref T) H'
theorem ok_pb {f fR : Addr} {fd fdR : FuncData} {k : Nat} (F : Fun K "put_behind" "put_behind" s_put_behind f fd) (GR : FnOk P w K mg base CX0 (k + 1) fR fdR ["deed", "numbers"] (spRen K)) (kR : PySem.W.keepIn K (.ref fR) = true) (bR : Binds K fdR ["deed", "numbers"] [])
    (gR : mg "renumbered" = some (.ref fR)) (mt : mg "tuple" = none) (ml : mg "list" = none) (mr : mg "range" = none) (mn : mg "len" = none) : FnOk P w K mg base CX0 (k + 2) f fd ["many", "deeds", "row", "inputs"] (spPb K) := by
  refine F.ok sc_put_behind (fun vs H Q E h => ?_) (fun cdv A outer s H vs Q E hr h => ?_)
  · obtain ⟨D0, R, I, m, m2, o, rs0, ds0, ds, inp, rfl, _⟩ := h
    rfl
  · obtain ⟨D0, R, I, m, m2, o, rs0, ds0, ds, inp, rfl, e0, hd0, hrow, eI, hm2, hok, o0, o1, m0, m1, l0, l1, l2, q⟩ := h
    obtain ⟨D, rs, eR, eD, hd⟩ := id hrow
    refine ⟨_, pss_cons (ps_set (i := 4) sc_put_behind.nd rfl (.inl rfl) (pe_op op_add (pv 0) (pe_callB call_len_seq (by rfl) mn PySem.boot_len (pa_cons (pv 1) pa_nil))))
      (pss_cons (ps_set (i := 5) sc_put_behind.nd rfl (.inr rfl) (pe_op op_cat (pv 3) (pe_listRg rfl (by rfl) ml (prg_2 (by rfl) mr (pv 4) (pe_op op_add (pv 4) (pe_callB call_len_seq (by rfl) mn PySem.boot_len (pa_cons (pe_ix ix_tup (pv 2) pe_int (fun _ _ => rfl)) pa_nil)))))))
      (pss_one (ps_ret (pe_tup (pa_cons (pe_op op_catZ (pv 1) (pe_callTy call_tuple_of (by rfl) mt (by decide +kernel) (pa_cons
        (pe_lc (own := [("deed", 6)]) (g := gName 6) (by rfl) sc_put_behind.nd (pi_tup (pe_ix ix_tup (pv 2) pe_int (fun _ _ => rfl))) (blkOk_by (own := [("deed", 6)]) (N := N_put_behind) (sc := defScope s_put_behind) (by decide +kernel))
          (fun _ _ _ _ _ => pg_name (i := 6) sc_put_behind.nd rfl (Or.inl rfl)) (fun _ _ _ _ _ => pts_nil)
          (fun _ _ _ _ _ => pe_call GR hr (by rfl) gR kR bR .nil pass0 (pa_cons (pv 6) (pa_cons (pv 5) pa_nil)))) pa_nil)))
        (pa_cons (pe_ix ix_list (pv 5) (pe_ix ix_tup (pv 2) pe_int (fun _ _ => rfl)) (fun _ _ => rfl)) pa_nil)))))), ?_⟩
    have lr0 := awLen hd0
    have lr := awLen hd
    obtain ⟨l0', hl0⟩ : ∃ l, l = rs0.map V.ref := ⟨_, rfl⟩
    obtain ⟨l1', hl1⟩ : ∃ l, l = rs.map V.ref := ⟨_, rfl⟩
    have ln0 : l0'.length = ds0.length := by rw [hl0, List.length_map, lr0]
    have ln1 : l1'.length = ds.length := by rw [hl1, List.length_map, lr]
    obtain ⟨nu, hnu⟩ : ∃ nu, nu = nuL inp (m + ds0.length) ds.length := ⟨_, rfl⟩
    rw [← hnu] at q
    have e0' := e0
    have eD' := eD
    rw [← hl0] at e0'
    rw [← hl1] at eD'
    have eL : inp.map V.int ++ rgV (m + (l0'.length : Int)) (m + (l0'.length : Int) + (l1'.length : Int)) = nu.map V.int := by rw [ln0, ln1, ints_nuL, ← hnu]
    refine ⟨.int m, rfl, .ref D0, rfl, D0, _, rfl, .inr (SqT.of e0'), m, _, rfl, rfl, ?_⟩
    refine ⟨.ref I, rfl, .int (m + (l0'.length : Int)), rfl, .int (m + (l0'.length : Int)), rfl, .ref R, rfl, R, _, 1, .ref D, rfl, rfl, SqT.of eR, rfl, D, _, rfl, .inr (SqT.of eD'), m + (l0'.length : Int), _, rfl, rfl, m + (l0'.length : Int), m + (l0'.length : Int) + (l1'.length : Int), rfl, rfl, ?_⟩
    refine ⟨RgOk.of_le (by omega) (by omega) (by omega) (by omega), fun G hG => ?_⟩
    have sG := same_new (o := .lst (rgV (m + (l0'.length : Int)) (m + (l0'.length : Int) + (l1'.length : Int)))) hG
    refine ⟨I, G, _, _, rfl, rfl, sG _ _ eI, upd_same, ?_, fun U hU => ?_⟩
    · rw [List.length_map, rgV_length]
      exact Nat.le_of_lt (small1000 (by omega))
    rw [eL]
    have sU := sG.trans (same_new (o := .lst (nu.map V.int)) hU)
    obtain ⟨H3, hH3⟩ : ∃ H3, H3 = upd (upd H G (.lst (rgV (m + (l0'.length : Int)) (m + (l0'.length : Int) + (l1'.length : Int))))) U (.lst (nu.map V.int)) := ⟨_, rfl⟩
    have eU3 : H3 U = some (.lst (nu.map V.int)) := by rw [hH3]; exact upd_same
    rw [← hH3] at sU ⊢
    have lnu : nu.length = inp.length + ds.length := by rw [hnu, nuL_len]
    refine ⟨.ref D0, rfl, .ref R, rfl, R, _, 1, .ref D, rfl, rfl, SqT.of (sU _ _ eR), rfl, D, rfl, ⟨_, SqT.of (sU _ _ eD)⟩, fun C hC => ?_⟩
    refine lc_tup (K := K) (a := D) (xs := rs.map V.ref) (fun j H4 => ∃ qs, H4 C = some (.lst (qs.map V.ref)) ∧ DsAt H4 qs ((ds.take j).map (renD nu)) ∧ Same H3 H4) ⟨[], upd_same, .nil, same_new hC⟩ (fun j H4 _ hp => ?_) (fun j x H4 hx hp => ?_) (fun H4 hp => ?_)
    · obtain ⟨qs, _, _, s4⟩ := hp
      exact SqT.of (s4 _ _ (sU _ _ eD))
    · obtain ⟨qs, eC, hq, s4⟩ := hp
      have hi : j < rs.length := by
        have := (List.getElem?_eq_some_iff.mp hx).1
        rwa [List.length_map] at this
      have hx' : x = .ref rs[j] := by
        rw [List.getElem?_map, List.getElem?_eq_getElem hi] at hx
        exact (Option.some.inj hx).symm
      subst hx'
      obtain ⟨d, hd1, hd2⟩ := awGet hd (List.getElem?_eq_getElem hi)
      have okd : DeedOk nu.length d := by
        have h1 := hok.each j d hd1
        refine ⟨h1.word, fun i hi' => ?_⟩
        obtain ⟨i0, i1⟩ := h1.ahead i hi'
        refine ⟨i0, ?_⟩
        rw [lnu]
        omega
      have lq := awLen hq
      rw [List.length_map, List.length_take] at lq
      refine ⟨rfl, .ref rs[j], rfl, .ref U, rfl, rs[j], U, d, nu, rfl, s4 _ _ (sU _ _ hd2), okd, .inl (.inl (s4 _ _ eU3)), fun H5 r' s5 e5 => ?_⟩
      have eC5 := s5 _ _ eC
      refine ⟨_, eC5, ?_, qs ++ [r'], ?_, ?_, ?_⟩
      · rw [List.length_map]
        exact small1000 (by omega)
      · rw [upd_same, List.map_append]
        rfl
      · rw [List.take_add_one, hd1, List.map_append]
        exact (tups_put eC5).ds (awSnoc (F := fun r d => H5 r = some (.tup (dV d))) e5 ((Same.tups s5).ds hq))
      · intro b u e
        have nb : b ≠ C := ne_of_none e hC
        rw [upd_ne nb]
        exact s5 _ _ (s4 _ _ e)
    · obtain ⟨qs, eC, hq, s4⟩ := hp
      rw [List.length_map, lr, List.take_length] at hq
      have lq := awLen hq
      rw [List.length_map] at lq
      refine ⟨C, _, rfl, .inl ⟨.inl (.inl eC), fun Z hZ => ?_⟩⟩
      have sZ := same_new (o := .tup (qs.map V.ref)) hZ
      refine ⟨D0, Z, _, _, rfl, rfl, sZ _ _ (s4 _ _ (sU _ _ e0)), upd_same, ?_, fun D1 H5 s5 e5 => ?_⟩
      · rw [List.length_map, List.length_map]
        exact Nat.le_of_lt (small1000 (by omega))
      have sH5 : Same H H5 := sU.trans (s4.trans (sZ.trans s5))
      refine ⟨.ref U, rfl, .ref R, rfl, R, _, 2, .int o, rfl, rfl, SqT.of (sH5 _ _ eR), rfl, U, _, o, .int (nu.getD o.toNat 0), rfl, rfl, .inl (.inl (s5 _ _ (sZ _ _ (s4 _ _ eU3)))), atI_ints o0 (by rw [lnu]; omega), (by show 2 ≤ sizeLine; decide), fun T hT => ?_⟩
      have sT := same_new (o := .tup [.ref D1, .int (nu.getD o.toNat 0)]) hT
      refine q _ T D1 (rs0 ++ qs) (sH5.trans sT) upd_same ?_ ?_
      · rw [List.map_append]
        exact sT _ _ e5
      · exact awAppend ((Same.tups (sH5.trans sT)).ds hd0) ((Same.tups (sZ.trans (s5.trans sT))).ds hq)
/-! ### rows put together, as numbers -/
structure Rw where
  m : Int
  ds : List Deed
  o : Int
abbrev RwAt (H : Hp) (a : Addr) (r : Rw) : Prop := RowAt H a r.m r.ds r.o
abbrev RwsAt (H : Hp) : List Addr → List Rw → Prop := Paired (RwAt H)
abbrev RwOk (r : Rw) : Prop := RowOk r.m r.ds r.o
theorem stayRws {H H' : Hp} (t : TupsStay H H') {as : List Addr} {rws : List Rw} (h : RwsAt H as rws) : RwsAt H' as rws := awMap (fun _ _ e => t.row e) h
def upI (m : Int) : List Int := (List.range m.toNat).map fun (k : Nat) => (k : Int)
theorem upI_len {m : Int} (h : 0 ≤ m) : ((upI m).length : Int) = m := by
  unfold upI
  rw [List.length_map, List.length_range]
  omega
theorem upI_in {m n : Int} (h : m ≤ n) : ∀ x ∈ upI m, 0 ≤ x ∧ x < n := by
  intro x hx
  obtain ⟨k, hk, rfl⟩ := List.mem_map.mp hx
  have := List.mem_range.mp hk
  omega
theorem upI_rg {m : Int} : rgV 0 m = (upI m).map V.int := by
  unfold upI rgV
  rw [List.map_map]
  have : (m - 0).toNat = m.toNat := by omega
  rw [this]
  apply List.map_congr_left
  intro k _
  show V.int (0 + (k : Int)) = V.int (k : Int)
  rw [Int.zero_add]
def putNu (m : Int) (inp : List Int) (acc : List Deed) (r : Rw) : List Int := nuL inp (m + acc.length) r.ds.length
def putS (m : Int) (st : List Deed × List Int) (r : Rw) : List Deed × List Int := (st.1 ++ r.ds.map (renD (putNu m (upI m) st.1 r)), st.2 ++ [(putNu m (upI m) st.1 r).getD r.o.toNat 0])
def putAll (m : Int) (rws : List Rw) : List Deed × List Int := rws.foldl (putS m) ([], [])
def putF (m : Int) (rws : List Rw) (r : Rw) : Rw := ⟨m, (putAll m rws).1 ++ r.ds.map (renD (putNu m (putAll m rws).2 (putAll m rws).1 r)), (putNu m (putAll m rws).2 (putAll m rws).1 r).getD r.o.toNat 0⟩
theorem putAll_next {m : Int} {rws : List Rw} {i : Nat} {r : Rw} (h : rws[i]? = some r) : putAll m (rws.take (i + 1)) = putS m (putAll m (rws.take i)) r := by
  unfold putAll
  rw [List.take_add_one, h, List.foldl_append]
  rfl
def dsSum (rws : List Rw) : Nat := (rws.map fun r => r.ds.length).sum
theorem putS_len (m : Int) (st : List Deed × List Int) (r : Rw) : (putS m st r).1.length = st.1.length + r.ds.length ∧ (putS m st r).2.length = st.2.length + 1 := by
  unfold putS
  constructor
  · rw [List.length_append, List.length_map]
  · rw [List.length_append]
    rfl
theorem foldS_len (m : Int) : ∀ (rws : List Rw) (st : List Deed × List Int), (rws.foldl (putS m) st).1.length = st.1.length + dsSum rws ∧ (rws.foldl (putS m) st).2.length = st.2.length + rws.length
  | [], st => ⟨by simp [dsSum], by simp⟩
  | r :: rws, st => by
    obtain ⟨h1, h2⟩ := foldS_len m rws (putS m st r)
    obtain ⟨h3, h4⟩ := putS_len m st r
    rw [List.foldl_cons, h1, h2, h3, h4]
    constructor
    · unfold dsSum
      rw [List.map_cons, List.sum_cons]
      omega
    · rw [List.length_cons]
      omega
theorem putAll_len (m : Int) (rws : List Rw) : (putAll m rws).1.length = dsSum rws ∧ (putAll m rws).2.length = rws.length := by
  obtain ⟨h1, h2⟩ := foldS_len m rws ([], [])
  unfold putAll
  rw [h1, h2]
  exact ⟨by simp, by simp⟩
theorem dsSum_take (rws : List Rw) (i : Nat) : dsSum (rws.take i) ≤ dsSum rws := by
  unfold dsSum
  induction rws generalizing i with
  | nil => simp
  | cons r rws ih =>
    cases i with
    | zero => simp
    | succ i =>
      have := ih i
      simp only [List.take_succ_cons, List.map_cons, List.sum_cons]
      omega
theorem dsSum_mem {rws : List Rw} {r : Rw} (h : r ∈ rws) : r.ds.length ≤ dsSum rws := by
  unfold dsSum
  induction rws with
  | nil => cases h
  | cons x rws ih =>
    rw [List.map_cons, List.sum_cons]
    rcases List.mem_cons.mp h with rfl | h
    · omega
    · have := ih h
      omega
/-- what is asked of parts -/
structure Parts (m : Int) (rws : List Rw) (r : Rw) : Prop where
  row : RwOk r
  many : (rws.length : Int) = r.m
  parts : ∀ x ∈ rws, RwOk x ∧ x.m = m
  m1 : 1 ≤ m
  m3 : m ≤ 3
  few : r.ds.length + dsSum rws ≤ 8
theorem ren_all {m m2 : Int} {ds : List Deed} {nu : List Int} {n : Nat} (h : DsOk m2 ds) (hl : (nu.length : Int) = m2 + ds.length) (hn : ∀ j (z : Nat), z < m2.toNat + j → ∀ x, nu[z]? = some x → 0 ≤ x ∧ x < m + n + j) : DsOk (m + n) (ds.map (renD nu)) := by
  constructor
  intro k d hk
  rw [List.getElem?_map] at hk
  obtain ⟨d0, hd0, rfl⟩ := Option.map_eq_some_iff.mp hk
  have okd := h.each k d0 hd0
  refine ⟨?_, ?_⟩
  · show (d0.1, ((d0.2.map _).length : Int)) ∈ fwL
    rw [List.length_map]
    exact okd.word
  · intro i hi
    obtain ⟨z, hz, rfl⟩ := List.mem_map.mp hi
    obtain ⟨z0, z1⟩ := okd.ahead z hz
    have hk2 := (List.getElem?_eq_some_iff.mp hd0).1
    have hk : z.toNat < nu.length := by omega
    rw [List.getD_eq_getElem?_getD, List.getElem?_eq_getElem hk]
    exact hn k z.toNat (by omega) _ (List.getElem?_eq_getElem hk)
theorem nuL_at {inp : List Int} {st : Int} {n : Nat} {m2 b : Int} (hl : (inp.length : Int) = m2) (hi : ∀ x ∈ inp, 0 ≤ x ∧ x < b) (hb : b ≤ st) (h0 : 0 ≤ st) : ∀ j (z : Nat), z < m2.toNat + j → ∀ x, (nuL inp st n)[z]? = some x → 0 ≤ x ∧ x < st + j := by
  intro j z hz x hx
  unfold nuL at hx
  by_cases h : z < inp.length
  · rw [List.getElem?_append_left h] at hx
    have := hi x (List.mem_of_getElem? hx)
    omega
  · rw [List.getElem?_append_right (by omega), List.getElem?_map] at hx
    obtain ⟨k, hk, rfl⟩ := Option.map_eq_some_iff.mp hx
    obtain ⟨h1, h2⟩ := List.getElem?_eq_some_iff.mp hk
    rw [List.getElem_range] at h2
    omega
theorem dsOk_nil (m : Int) : DsOk m [] := ⟨fun k d e => by simp at e⟩
theorem fold_ok {m : Int} (h0 : 0 ≤ m) : ∀ (rws : List Rw) (st : List Deed × List Int), (∀ x ∈ rws, RwOk x ∧ x.m = m) → DsOk m st.1 → (∀ x ∈ st.2, 0 ≤ x ∧ x < m + st.1.length) →
    DsOk m (rws.foldl (putS m) st).1 ∧ ∀ x ∈ (rws.foldl (putS m) st).2, 0 ≤ x ∧ x < m + (rws.foldl (putS m) st).1.length
  | [], _, _, h1, h2 => ⟨h1, h2⟩
  | r :: rws, st, hr, h1, h2 => by
    obtain ⟨rok, rm⟩ := hr r List.mem_cons_self
    have a1 := nuL_at (n := r.ds.length) (inp := upI m) (m2 := m) (b := m) (st := m + st.1.length) (upI_len h0) (upI_in (Int.le_refl _)) (by omega) (by omega)
    have a2 : DsOk (m + st.1.length) (r.ds.map (renD (putNu m (upI m) st.1 r))) := ren_all (m := m) (m2 := m) (n := st.1.length) (by rw [← rm]; exact rok.deeds) (by
      unfold putNu
      rw [nuL_len]
      have := upI_len h0
      omega) a1
    refine fold_ok h0 rws (putS m st r) (fun x hx => hr x (List.mem_cons_of_mem _ hx)) (dsOk_append h1 a2 rfl) ?_
    intro x hx
    have hl := (putS_len m st r).1
    rw [hl]
    rcases List.mem_append.mp hx with hx | hx
    · have := h2 x hx
      omega
    · rw [List.mem_singleton.mp hx]
      have hlen : (putNu m (upI m) st.1 r).length = (upI m).length + r.ds.length := nuL_len _ _ _
      have hu := upI_len h0
      have h3 := rok.o0
      have h4 := rok.o1
      have hk : r.o.toNat < (putNu m (upI m) st.1 r).length := by omega
      rw [List.getD_eq_getElem?_getD, List.getElem?_eq_getElem hk]
      have := a1 r.ds.length r.o.toNat (by omega) _ (List.getElem?_eq_getElem hk)
      show 0 ≤ (putNu m (upI m) st.1 r)[r.o.toNat] ∧ (putNu m (upI m) st.1 r)[r.o.toNat] < _
      unfold putNu at this ⊢
      omega
theorem putF_ok {m : Int} {rws : List Rw} {r : Rw} (h : Parts m rws r) : RwOk (putF m rws r) := by
  have hm := h.m1
  obtain ⟨b1, b2⟩ := fold_ok (m := m) (by omega) rws ([], []) h.parts (dsOk_nil m) (fun x hx => by cases hx)
  obtain ⟨l1, l2⟩ := putAll_len m rws
  have e : rws.foldl (putS m) ([], []) = putAll m rws := rfl
  rw [e] at b1 b2
  have few := h.few
  have many := h.many
  have rok := h.row
  have a1 := nuL_at (n := r.ds.length) (inp := (putAll m rws).2) (m2 := r.m) (b := m + (putAll m rws).1.length) (st := m + (putAll m rws).1.length) (by rw [l2]; exact many) b2 (Int.le_refl _) (by omega)
  have a2 : DsOk (m + (putAll m rws).1.length) (r.ds.map (renD (putNu m (putAll m rws).2 (putAll m rws).1 r))) := ren_all (m := m) (m2 := r.m) (n := (putAll m rws).1.length) rok.deeds (by
    unfold putNu
    rw [nuL_len]
    omega) a1
  have hlen : (putNu m (putAll m rws).2 (putAll m rws).1 r).length = (putAll m rws).2.length + r.ds.length := nuL_len _ _ _
  have h3 := rok.o0
  have h4 := rok.o1
  have hk : r.o.toNat < (putNu m (putAll m rws).2 (putAll m rws).1 r).length := by omega
  have ho := a1 r.ds.length r.o.toNat (by omega) _ (List.getElem?_eq_getElem hk)
  have eo : (putF m rws r).o = (putNu m (putAll m rws).2 (putAll m rws).1 r)[r.o.toNat] := by
    show (putNu m (putAll m rws).2 (putAll m rws).1 r).getD r.o.toNat 0 = _
    rw [List.getD_eq_getElem?_getD, List.getElem?_eq_getElem hk]
    rfl
  have el : (putF m rws r).ds.length = (putAll m rws).1.length + r.ds.length := by
    show (_ ++ List.map _ _).length = _
    rw [List.length_append, List.length_map]
  refine ⟨hm, h.m3, by rw [el]; omega, dsOk_append b1 a2 rfl, ?_, ?_⟩
  · rw [eo]
    exact ho.1
  · rw [eo, el]
    have := ho.2
    show (putNu m (putAll m rws).2 (putAll m rws).1 r)[r.o.toNat] < m + _
    unfold putNu at this ⊢
    omega
/-! ### check_parts where nothing is refused -/
theorem awAt0 {as : List Addr} {a : Addr} {l : List Addr} (h : as = a :: l) : atI (as.map V.ref) 0 = some (.ref a) := by
  subst h
  exact atI_nat (j := 0) rfl
theorem row0 {m o : Int} {D : Addr} : atI [V.int m, .ref D, .int o] 0 = some (.int m) := atI_nat (j := 0) rfl
def rLen (K : PySem.W.Frag) : List V → Hp → VK → Prop := fun xs H Q => ∃ p ys, xs = [.ref p] ∧ (SqL K H p ys ∨ SqT K H p ys) ∧ Q (.int ys.length) H
def spCk (K : PySem.W.Frag) : Sp := fun vs H Q _ => ∃ (R L : Addr) (m : Int) (as : List Addr) (rws : List Rw) (r : Rw), vs = [.ref R, .ref L] ∧ RwAt H R r ∧ H L = some (.lst (as.map V.ref)) ∧ RwsAt H as rws ∧ Parts m rws r ∧ ∀ H', Same H H' → Q .non H'
theorem ok_ck {f : Addr} {fd : FuncData} {k : Nat} {t : Tok} (F : Fun K "check_parts" "check_parts" s_check_parts f fd) (mn : mg "len" = none) (ms : mg "sum" = none) (gM : mg "MOST_DEEDS" = some (.int 8 t)) : FnOk P w K mg base CX0 (k + 1) f fd ["row", "rows"] (spCk K) := by
  refine F.ok sc_check_parts (fun vs H Q E h => ?_) (fun cdv A outer s H vs Q E hr h => ?_)
  · obtain ⟨R, L, m, as, rws, r, rfl, _⟩ := h
    rfl
  · obtain ⟨R, L, m, as, rws, r, rfl, hrow, eL, hrs, hp, q⟩ := h
    obtain ⟨D, rs, eR, eD, hd⟩ := id hrow
    refine ⟨_, pss_cons (ps_if (pt_cmpR op_ne (pe_callB call_len_seq (by rfl) mn PySem.boot_len (pa_cons (pv 1) pa_nil)) (pe_ix ix_tup (pv 0) pe_int (fun _ _ => rfl)) (nomark _)) (pss_one ps_never) pss_nil)
      (pss_cons (ps_for PassesOwn.never rfl (pi_list (pv 1)) (pg_name (i := 2) sc_check_parts.nd rfl (.inl rfl)) (pss_one (ps_if (pt_cmpR op_ne (pe_ix ix_tup (pv 2) pe_int (fun _ _ => rfl)) (pe_ix ix_tup (pe_ix ix_list (pv 1) pe_int (fun _ _ => rfl)) pe_int (fun _ _ => rfl)) (nomark _)) (pss_one ps_never) pss_nil)))
      (pss_cons (ps_set (i := 3) sc_check_parts.nd rfl (.inl rfl) (pe_op op_add (pe_callB call_len_seq (by rfl) mn PySem.boot_len (pa_cons (pe_ix ix_tup (pv 0) pe_int (fun _ _ => rfl)) pa_nil)) (pe_callB (cr_sum rfl) (by rfl) ms (by decide +kernel) (pa_cons
        (pe_lc (own := [("part", 2)]) (g := gName 2) (by rfl) sc_check_parts.nd (pi_list (pv 1)) (blkOk_by (own := [("part", 2)]) (N := N_check_parts) (sc := defScope s_check_parts) (by decide +kernel))
          (fun _ _ _ _ _ => pg_name (i := 2) sc_check_parts.nd rfl (Or.inl rfl)) (fun _ _ _ _ _ => pts_nil)
          (fun _ _ _ _ _ => pe_callB (r := rLen K) call_len_seq (by rfl) mn PySem.boot_len (pa_cons (pe_ix (r := rIxT K) ix_tup (pv 2) pe_int (fun _ _ => rfl)) pa_nil))) pa_nil))))
      (pss_one (ps_if (pt_cmpR op_gt (pv 3) (pe_glob (v := .int 8) (by rfl) gM ⟨t, rfl⟩) (nomark _)) (pss_one ps_never) pss_nil)))), ?_⟩
    have lr := awLen hd
    have la := awLen hrs
    have hm1 := hp.row.m1
    have hm3 := hp.row.m3
    have many := hp.many
    obtain ⟨a0, as0, ha0⟩ : ∃ a0 as0, as = a0 :: as0 := by
      cases as with
      | nil => rw [List.length_nil] at la; omega
      | cons a l => exact ⟨a, l, rfl⟩
    obtain ⟨x0, hx0, hw0⟩ := awGet (i := 0) (x := a0) hrs (by rw [ha0]; rfl)
    obtain ⟨D0, rs0, eA0, _, _⟩ := id hw0
    have hxm := (hp.parts x0 (List.mem_of_getElem? hx0)).2
    rw [hxm] at eA0
    have SL : SqL K H L (as.map V.ref) := .inl (.inl eL)
    have elen : V.int (((as.map V.ref).length : Nat) : Int) = V.int r.m := by rw [List.length_map, la, many]
    refine ⟨.ref L, rfl, L, _, rfl, .inl SL, .ref R, rfl, R, _, 0, .int r.m, rfl, rfl, SqT.of eR, row0, ⟨rfl, _, rfl, iteNS elen ?_⟩⟩
    refine ⟨.ref L, rfl, L, rfl, ⟨_, SL⟩, for_list (K := K) (a := L) (xs := as.map V.ref) (fun i σ H3 => ∃ y, σ = [some (.ref R), some (.ref L), y, none] ∧ H3 = H) ⟨none, rfl, rfl⟩ (fun i σ H3 _ h3 => ?_) (fun i x σ H3 hx h3 => ?_) (fun σ H3 h3 => ?_)⟩
    · obtain ⟨_, _, rfl⟩ := h3
      exact SL
    · obtain ⟨y, rfl, rfl⟩ := h3
      rw [List.getElem?_map] at hx
      obtain ⟨a, ha, rfl⟩ := Option.map_eq_some_iff.mp hx
      obtain ⟨xr, hxr, hw⟩ := awGet hrs ha
      obtain ⟨D2, rs2, eA, _, _⟩ := id hw
      have hxm2 := (hp.parts xr (List.mem_of_getElem? hxr)).2
      rw [hxm2] at eA
      refine ⟨.ref a, rfl, a, _, 0, .int m, rfl, rfl, SqT.of eA, row0, .ref L, rfl, L, _, 0, .ref a0, rfl, rfl, SL, awAt0 ha0, a0, _, 0, .int m, rfl, rfl, SqT.of eA0, row0, ⟨rfl, _, rfl, iteNS rfl ?_⟩⟩
      exact ⟨_, rfl, rfl⟩
    · obtain ⟨y, rfl, rfl⟩ := h3
      refine ⟨.ref R, rfl, R, _, 1, .ref D, rfl, rfl, SqT.of eR, rfl, D, _, rfl, .inr (SqT.of eD), .ref L, rfl, L, rfl, ⟨_, SL⟩, fun C hC => ?_⟩
      have sC : ∀ o, Same H3 (upd H3 C o) := fun o => same_new hC
      refine lc_list (K := K) (a := L) (xs := as.map V.ref) (fun i H4 => H4 = upd H3 C (.lst (((rws.take i).map fun r => (r.ds.length : Int)).map V.int))) rfl (fun i H4 _ h4 => ?_) (fun i x H4 hx h4 => ?_) (fun H4 h4 => ?_)
      · subst h4
        exact (sC _).seq SL
      · subst h4
        have hi := (List.getElem?_eq_some_iff.mp hx).1
        rw [List.length_map] at hi
        rw [List.getElem?_map] at hx
        obtain ⟨a, ha, rfl⟩ := Option.map_eq_some_iff.mp hx
        obtain ⟨xr, hxr, hw⟩ := awGet hrs ha
        obtain ⟨D2, rs2, eA, eD2, hd2⟩ := id hw
        refine ⟨rfl, .ref a, rfl, a, _, 1, .ref D2, rfl, rfl, SqT.of (sC _ _ _ eA), rfl, D2, _, rfl, .inr (SqT.of (sC _ _ _ eD2)), _, upd_same, ?_, ?_⟩
        · rw [List.length_map, List.length_map, List.length_take]
          exact small1000 (by omega)
        · rw [upd_upd, List.take_add_one, hxr]
          simp [awLen hd2]
      · have eC : H4 C = some (.lst ((rws.map fun r => (r.ds.length : Int)).map V.int)) := by
          rw [h4, upd_same, List.length_map, la, List.take_length]
        have s4 : Same H3 H4 := by rw [h4]; exact sC _
        have esum : (((rs.map V.ref).length : Nat) : Int) + (rws.map fun r => (r.ds.length : Int)).sum = ((r.ds.length + dsSum rws : Nat) : Int) := by
          rw [List.length_map, lr]
          unfold dsSum
          have : ∀ l : List Rw, (l.map fun r => (r.ds.length : Int)).sum = (((l.map fun r => r.ds.length).sum : Nat) : Int) := by
            intro l
            induction l with
            | nil => rfl
            | cons x l ih => rw [List.map_cons, List.map_cons, List.sum_cons, List.sum_cons, ih]; omega
          rw [this]
          omega
        refine ⟨C, _, rfl, .inl (.inl eC), _, _, rfl, rfl, _, rfl, _, 8, rfl, rfl, _, rfl, ite2 (fun hgt => ?_) (fun _ => ?_)⟩
        · have hgt2 := of_decide_eq_true hgt
          have few := hp.few
          rw [esum] at hgt2
          exfalso
          omega
        · exact q H4 s4
/-! ### check_parts, refusals too -/
theorem app_len (x y : Str) : (x ++ y).length = x.length + y.length := by
  rw [TL.len_tl, TL.tl_append, List.length_append, ← TL.len_tl, ← TL.len_tl]
theorem js_len {acc y : Str} {a b : Nat} (h1 : acc.length ≤ a) (h2 : y.length ≤ b) (h : a + b ≤ 1000) : (acc ++ y).length ≤ sizeLine ∧ (acc ++ y).length ≤ a + b := by
  rw [app_len, sizeLine_eq]
  omega
theorem iX_len {i : Int} (h : i.natAbs < 10 ^ 3) : (Str.ofString (toString i)).length ≤ 4 := by
  rw [PySem.ofString_length]
  exact int_text_length_le10 (k := 3) (by decide) h
theorem log_small {i : Int} (h : i.natAbs < 1000) : i.natAbs.log2 < 1920 := by
  by_cases e : i.natAbs = 0
  · rw [e]; decide
  · have := (Nat.log2_lt (k := 10) e).mpr (Nat.lt_trans h (by decide))
    omega
theorem neT {x y : Int} (h : (!decide (V.int x = V.int y)) = true) : ¬ x = y := fun e => by
  rw [decide_eq_true (congrArg V.int e)] at h
  cases h
theorem neF {x y : Int} (h : ¬ (!decide (V.int x = V.int y)) = true) : x = y := by
  by_cases e : x = y
  · exact e
  · exfalso
    apply h
    rw [decide_eq_false (fun z => e (V.int.inj z))]
    rfl
def pairOff (rws : List Rw) (r : Rw) : Prop := ¬ (rws.length : Int) = r.m ∨ ∃ x ∈ rws, ∃ x0, rws[0]? = some x0 ∧ ¬ x.m = x0.m
def spCkX (K : PySem.W.Frag) (cP cT : Addr) : Sp := fun vs H Q E => ∃ (R L : Addr) (as : List Addr) (rws : List Rw) (r : Rw), vs = [.ref R, .ref L] ∧ RwAt H R r ∧ H L = some (.lst (as.map V.ref)) ∧ RwsAt H as rws ∧ RwOk r ∧ (∀ x ∈ rws, RwOk x) ∧ rws.length ≤ 4 ∧
  (pairOff rws r → ∀ H', Same H H' → E (.ref cP) none H') ∧ (¬ pairOff rws r → 8 < r.ds.length + dsSum rws → ∀ H', Same H H' → E (.ref cT) none H') ∧ (¬ pairOff rws r → r.ds.length + dsSum rws ≤ 8 → ∀ H', Same H H' → Q .non H')
/-- a class of the program whose instances are raised -/
structure Rai (K : PySem.W.Frag) (mg : Str → Option Value) (x : Str) (C : Addr) : Prop where
  q : PySem.W.excIn K C [.type "ValueError", .type "Exception", .type "BaseException", .type "object"] "ValueError.__new__" = true
  g : mg x = some (.ref C)
  k : PySem.W.keepIn K (.ref C) = true
  s : PySem.W.subIn K (.ref C) (.type "BaseException") = some true
  t : PySem.W.typeIn K (.ref C) = some (.type "type")
theorem ok_ckX {f cP cT : Addr} {fd : FuncData} {k : Nat} {t : Tok} (F : Fun K "check_parts" "check_parts" s_check_parts f fd) (rP : Rai K mg "NoPair" cP) (rT : Rai K mg "TooMany" cT) (mn : mg "len" = none) (ms : mg "sum" = none) (gM : mg "MOST_DEEDS" = some (.int 8 t)) :
    FnOk P w K mg base (L2.CX P w) (k + 1) f fd ["row", "rows"] (spCkX K cP cT) := by
  refine F.okX sc_check_parts (fun vs H Q E h => ?_) (fun cdv A outer s H vs Q E hr h => ?_)
  · obtain ⟨R, L, as, rws, r, rfl, _⟩ := h
    rfl
  · obtain ⟨R, L, as, rws, r, rfl, hrow, eL, hrs, rok, xok, hl4, qP, qT, q⟩ := h
    obtain ⟨D, rs, eR, eD, hd⟩ := id hrow
    refine ⟨_, pss_cons (ps_if (pt_cmpR op_ne (pe_callB call_len_seq (by rfl) mn PySem.boot_len (pa_cons (pv 1) pa_nil)) (pe_ix ix_tup (pv 0) pe_int (fun _ _ => rfl)) (nomark _))
        (pss_one (ps_raise rfl (takes_of rfl rfl rfl rfl) (SkE.pmk_own1 PySem.F.excBase_ValueError rP.q rP.g rP.k (raises_own rP.s rP.t) (by rfl) (pe_joined (.cons (pe_fmt (pe_callB call_len_seq (by rfl) mn PySem.boot_len (pa_cons (pv 1) pa_nil))) (.cons pe_str (.cons (pe_fmt (pe_ix ix_tup (pv 0) pe_int (fun _ _ => rfl))) (.cons pe_str .nil)))))))) pss_nil)
      (pss_cons (ps_for (passes_of rfl) rfl (pi_list (pv 1)) (pg_name (i := 2) sc_check_parts.nd rfl (.inl rfl)) (pss_one (ps_if (pt_cmpR op_ne (pe_ix ix_tup (pv 2) pe_int (fun _ _ => rfl)) (pe_ix ix_tup (pe_ix ix_list (pv 1) pe_int (fun _ _ => rfl)) pe_int (fun _ _ => rfl)) (nomark _))
        (pss_one (ps_raise rfl (takes_of rfl rfl rfl rfl) (SkE.pmk_own1 PySem.F.excBase_ValueError rP.q rP.g rP.k (raises_own rP.s rP.t) (by rfl) (pe_joined (.cons pe_str (.cons (pe_fmt (pe_ix ix_tup (pe_ix ix_list (pv 1) pe_int (fun _ _ => rfl)) pe_int (fun _ _ => rfl))) (.cons pe_str (.cons (pe_fmt (pe_ix ix_tup (pv 2) pe_int (fun _ _ => rfl))) (.cons pe_str .nil))))))))) pss_nil)))
      (pss_cons (ps_set (i := 3) sc_check_parts.nd rfl (.inl rfl) (pe_op op_add (pe_callB call_len_seq (by rfl) mn PySem.boot_len (pa_cons (pe_ix ix_tup (pv 0) pe_int (fun _ _ => rfl)) pa_nil)) (pe_callB (cr_sum rfl) (by rfl) ms (by decide +kernel) (pa_cons
        (pe_lc (own := [("part", 2)]) (g := gName 2) (by rfl) sc_check_parts.nd (pi_list (pv 1)) (blkOk_by (own := [("part", 2)]) (N := N_check_parts) (sc := defScope s_check_parts) (by decide +kernel))
          (fun _ _ _ _ _ => pg_name (i := 2) sc_check_parts.nd rfl (Or.inl rfl)) (fun _ _ _ _ _ => pts_nil)
          (fun _ _ _ _ _ => pe_callB (r := rLen K) call_len_seq (by rfl) mn PySem.boot_len (pa_cons (pe_ix (r := rIxT K) ix_tup (pv 2) pe_int (fun _ _ => rfl)) pa_nil))) pa_nil))))
      (pss_one (ps_if (pt_cmpR op_gt (pv 3) (pe_glob (v := .int 8) (by rfl) gM ⟨t, rfl⟩) (nomark _))
        (pss_one (ps_raise rfl (takes_of rfl rfl rfl rfl) (SkE.pmk_own1 PySem.F.excBase_ValueError rT.q rT.g rT.k (raises_own rT.s rT.t) (by rfl) (pe_joined (.cons (pe_fmt (pv 3)) (.cons pe_str (.cons (pe_fmt (pe_glob (v := .int 8) (by rfl) gM ⟨t, rfl⟩)) (.cons pe_str .nil)))))))) pss_nil)))), ?_⟩
    have lr := awLen hd
    have la := awLen hrs
    have hm1 := rok.m1
    have hm3 := rok.m3
    have h8 := rok.len
    have SL : SqL K H L (as.map V.ref) := .inl (.inl eL)
    have lsm : (((as.map V.ref).length : Nat) : Int) = (rws.length : Int) := by rw [List.length_map, la]
    refine ⟨.ref L, rfl, L, _, rfl, .inl SL, .ref R, rfl, R, _, 0, .int r.m, rfl, rfl, SqT.of eR, row0, ⟨rfl, _, rfl, ite2 (fun hne => ?_) (fun heq => ?_)⟩⟩
    · have hne2 := neT hne
      rw [lsm] at hne2
      have b1 : ((((as.map V.ref).length : Nat) : Int)).natAbs < 1000 := by omega
      have b2 : (r.m).natAbs < 1000 := by omega
      have j0 := js_len (acc := Str.empty) (a := 0) (b := 4) (by decide) (iX_len b1) (by decide)
      have j1 := js_len (y := " rows for ") j0.2 (b := 10) (by decide +kernel) (by decide)
      have j2 := js_len j1.2 (b := 4) (iX_len b2) (by decide)
      have j3 := js_len (y := " inputs") j2.2 (b := 7) (by decide +kernel) (by decide)
      exact ⟨.ref L, rfl, L, _, rfl, .inl SL, .inr ⟨_, rfl, log_small b1, _, rfl, j0.1, _, rfl, j1.1, .ref R, rfl, R, _, 0, .int r.m, rfl, rfl, SqT.of eR, row0, .inr ⟨r.m, rfl, log_small b2, _, rfl, j2.1, _, rfl, j3.1, qP (.inl hne2) H (Same.refl H)⟩⟩⟩
    have many := neF heq
    rw [lsm] at many
    obtain ⟨a0, as0, ha0⟩ : ∃ a0 as0, as = a0 :: as0 := by
      cases as with
      | nil => rw [List.length_nil] at la; omega
      | cons a l => exact ⟨a, l, rfl⟩
    obtain ⟨x0, hx0, hw0⟩ := awGet (i := 0) (x := a0) hrs (by rw [ha0]; rfl)
    obtain ⟨D0, rs0, eA0, _, _⟩ := id hw0
    have x0ok := xok x0 (List.mem_of_getElem? hx0)
    refine ⟨.ref L, rfl, L, rfl, ⟨_, SL⟩, for_list (K := K) (a := L) (xs := as.map V.ref) (fun i σ H3 => ∃ y, σ = [some (.ref R), some (.ref L), y, none] ∧ H3 = H ∧ ∀ j x, j < i → rws[j]? = some x → x.m = x0.m) ⟨none, rfl, rfl, fun j x hj => by omega⟩ (fun i σ H3 _ h3 => ?_) (fun i x σ H3 hx h3 => ?_) (fun σ H3 h3 => ?_)⟩
    · obtain ⟨_, _, rfl, _⟩ := h3
      exact SL
    · obtain ⟨y, rfl, rfl, hal⟩ := h3
      rw [List.getElem?_map] at hx
      obtain ⟨a, ha, rfl⟩ := Option.map_eq_some_iff.mp hx
      obtain ⟨xr, hxr, hw⟩ := awGet hrs ha
      obtain ⟨D2, rs2, eA, _, _⟩ := id hw
      have xrok := xok xr (List.mem_of_getElem? hxr)
      refine ⟨.ref a, rfl, a, _, 0, .int xr.m, rfl, rfl, SqT.of eA, row0, .ref L, rfl, L, _, 0, .ref a0, rfl, rfl, SL, awAt0 ha0, a0, _, 0, .int x0.m, rfl, rfl, SqT.of eA0, row0, ⟨rfl, _, rfl, ite2 (fun hne => ?_) (fun he => ?_)⟩⟩
      · have hne2 := neT hne
        have c1 := x0ok.m1
        have c3 := x0ok.m3
        have d1 := xrok.m1
        have d3 := xrok.m3
        have b1 : (x0.m).natAbs < 1000 := by omega
        have b2 : (xr.m).natAbs < 1000 := by omega
        have j0 := js_len (acc := Str.empty) (y := "rows of ") (a := 0) (b := 8) (by decide) (by decide +kernel) (by decide)
        have j1 := js_len j0.2 (b := 4) (iX_len b1) (by decide)
        have j2 := js_len (y := " and of ") j1.2 (b := 8) (by decide +kernel) (by decide)
        have j3 := js_len j2.2 (b := 4) (iX_len b2) (by decide)
        have j4 := js_len (y := " inputs") j3.2 (b := 7) (by decide +kernel) (by decide)
        exact ⟨_, rfl, j0.1, .ref L, rfl, L, _, 0, .ref a0, rfl, rfl, SL, awAt0 ha0, a0, _, 0, .int x0.m, rfl, rfl, SqT.of eA0, row0, .inr ⟨x0.m, rfl, log_small b1, _, rfl, j1.1, _, rfl, j2.1, .ref a, rfl, a, _, 0, .int xr.m, rfl, rfl, SqT.of eA, row0, .inr ⟨xr.m, rfl, log_small b2, _, rfl, j3.1, _, rfl, j4.1, qP (.inr ⟨xr, List.mem_of_getElem? hxr, x0, hx0, hne2⟩) _ (Same.refl _)⟩⟩⟩
      · refine ⟨_, rfl, rfl, fun j x hj hjx => ?_⟩
        by_cases e : j = i
        · subst e
          rw [hxr] at hjx
          cases hjx
          exact neF he
        · exact hal j x (by omega) hjx
    · obtain ⟨y, rfl, rfl, hal⟩ := h3
      have npo : ¬ pairOff rws r := by
        rintro (h | ⟨x, hx, x0', h0, hne⟩)
        · exact h many
        · rw [hx0] at h0
          cases h0
          obtain ⟨j, hj⟩ := List.mem_iff_getElem?.mp hx
          have hjl := (List.getElem?_eq_some_iff.mp hj).1
          exact hne (hal j x (by rw [List.length_map, la]; exact hjl) hj)
      refine ⟨.ref R, rfl, R, _, 1, .ref D, rfl, rfl, SqT.of eR, rfl, D, _, rfl, .inr (SqT.of eD), .ref L, rfl, L, rfl, ⟨_, SL⟩, fun C hC => ?_⟩
      have sC : ∀ o, Same H3 (upd H3 C o) := fun o => same_new hC
      refine lc_list (K := K) (a := L) (xs := as.map V.ref) (fun i H4 => H4 = upd H3 C (.lst (((rws.take i).map fun r => (r.ds.length : Int)).map V.int))) rfl (fun i H4 _ h4 => ?_) (fun i x H4 hx h4 => ?_) (fun H4 h4 => ?_)
      · subst h4
        exact (sC _).seq SL
      · subst h4
        have hi := (List.getElem?_eq_some_iff.mp hx).1
        rw [List.length_map] at hi
        rw [List.getElem?_map] at hx
        obtain ⟨a, ha, rfl⟩ := Option.map_eq_some_iff.mp hx
        obtain ⟨xr, hxr, hw⟩ := awGet hrs ha
        obtain ⟨D2, rs2, eA, eD2, hd2⟩ := id hw
        refine ⟨rfl, .ref a, rfl, a, _, 1, .ref D2, rfl, rfl, SqT.of (sC _ _ _ eA), rfl, D2, _, rfl, .inr (SqT.of (sC _ _ _ eD2)), _, upd_same, ?_, ?_⟩
        · rw [List.length_map, List.length_map, List.length_take]
          exact small1000 (by omega)
        · rw [upd_upd, List.take_add_one, hxr]
          simp [awLen hd2]
      · have eC : H4 C = some (.lst ((rws.map fun r => (r.ds.length : Int)).map V.int)) := by
          rw [h4, upd_same, List.length_map, la, List.take_length]
        have s4 : Same H3 H4 := by rw [h4]; exact sC _
        have esum : (((rs.map V.ref).length : Nat) : Int) + (rws.map fun r => (r.ds.length : Int)).sum = ((r.ds.length + dsSum rws : Nat) : Int) := by
          rw [List.length_map, lr]
          unfold dsSum
          have : ∀ l : List Rw, (l.map fun r => (r.ds.length : Int)).sum = (((l.map fun r => r.ds.length).sum : Nat) : Int) := by
            intro l
            induction l with
            | nil => rfl
            | cons x l ih => rw [List.map_cons, List.map_cons, List.sum_cons, List.sum_cons, ih]; omega
          rw [this]
          omega
        have h32 : dsSum rws ≤ 32 := by
          have key : ∀ l : List Rw, (∀ x ∈ l, RwOk x) → dsSum l ≤ 8 * l.length := by
            intro l
            unfold dsSum
            induction l with
            | nil => intro _; simp
            | cons x l ih =>
              intro hl
              have := ih fun y hy => hl y (List.mem_cons_of_mem _ hy)
              have := (hl x List.mem_cons_self).len
              rw [List.map_cons, List.sum_cons, List.length_cons]
              omega
          have := key rws xok
          omega
        refine ⟨C, rws.map (fun r => (r.ds.length : Int)), rfl, .inl (.inl eC), (((rs.map V.ref).length : Nat) : Int), (rws.map fun r => (r.ds.length : Int)).sum, rfl, rfl, .int ((((rs.map V.ref).length : Nat) : Int) + (rws.map fun r => (r.ds.length : Int)).sum), rfl, _, 8, rfl, rfl, _, rfl, ite2 (fun hgt => ?_) (fun hle => ?_)⟩
        · have hgt2 := of_decide_eq_true hgt
          rw [esum] at hgt2
          have b1 : ((((rs.map V.ref).length : Nat) : Int) + (rws.map fun r => (r.ds.length : Int)).sum).natAbs < 1000 := by rw [esum]; omega
          have j0 := js_len (acc := Str.empty) (a := 0) (b := 4) (by decide) (iX_len b1) (by decide)
          have j1 := js_len (y := " deeds, where ") j0.2 (b := 14) (by decide +kernel) (by decide)
          have j2 := js_len (y := Str.ofString (toString (8 : Int))) j1.2 (b := 4) (iX_len (by decide)) (by decide)
          have j3 := js_len (y := " are the most") j2.2 (b := 13) (by decide +kernel) (by decide)
          exact ⟨.int _, rfl, .inr ⟨_, rfl, log_small b1, _, rfl, j0.1, _, rfl, j1.1, .inr ⟨8, rfl, by decide, _, rfl, j2.1, _, rfl, j3.1, qT npo (by omega) H4 s4⟩⟩⟩
        · have hle2 : ¬ (((r.ds.length + dsSum rws : Nat) : Int) > 8) := fun z => hle (by
            apply decide_eq_true
            rw [esum]
            exact z)
          exact q npo (by omega) H4 s4
/-! ### put_together, refusals too -/
theorem parts_of {rws : List Rw} {r : Rw} {x0 : Rw} (rok : RwOk r) (xok : ∀ x ∈ rws, RwOk x) (h0 : rws[0]? = some x0) (np : ¬ pairOff rws r) (h8 : r.ds.length + dsSum rws ≤ 8) : Parts x0.m rws r := by
  have x0ok := xok x0 (List.mem_of_getElem? h0)
  refine ⟨rok, ?_, fun x hx => ⟨xok x hx, ?_⟩, x0ok.m1, x0ok.m3, h8⟩
  · by_cases e : (rws.length : Int) = r.m
    · exact e
    · exact absurd (.inl e) np
  · by_cases e : x.m = x0.m
    · exact e
    · exact absurd (.inr ⟨x, hx, x0, h0, e⟩) np
def spPtX (K : PySem.W.Frag) (cP cT : Addr) : Sp := fun vs H Q E => ∃ (R L : Addr) (as : List Addr) (rws : List Rw) (r : Rw), vs = [.ref R, .ref L] ∧ RwAt H R r ∧ H L = some (.lst (as.map V.ref)) ∧ RwsAt H as rws ∧ RwOk r ∧ (∀ x ∈ rws, RwOk x) ∧ rws.length ≤ 4 ∧
  (pairOff rws r → ∀ H', Same H H' → E (.ref cP) none H') ∧ (¬ pairOff rws r → 8 < r.ds.length + dsSum rws → ∀ H', Same H H' → E (.ref cT) none H') ∧ (¬ pairOff rws r → r.ds.length + dsSum rws ≤ 8 → ∀ m, Parts m rws r → ∀ H' Z, Same H H' → RwAt H' Z (putF m rws r) → Q (.ref Z) H')
theorem ok_ptX {f fC fB cP cT : Addr} {fd fdC fdB : FuncData} {k : Nat} (F : Fun K "put_together" "put_together" s_put_together f fd)
    (GC : FnOk P w K mg base (L2.CX P w) (k + 2) fC fdC ["row", "rows"] (spCkX K cP cT)) (kC : PySem.W.keepIn K (.ref fC) = true) (bC : Binds K fdC ["row", "rows"] []) (gC : mg "check_parts" = some (.ref fC))
    (GB : FnOk P w K mg base CX0 (k + 2) fB fdB ["many", "deeds", "row", "inputs"] (spPb K)) (kB : PySem.W.keepIn K (.ref fB) = true) (bB : Binds K fdB ["many", "deeds", "row", "inputs"] []) (gB : mg "put_behind" = some (.ref fB))
    (ml : mg "list" = none) (mr : mg "range" = none) : FnOk P w K mg base (L2.CX P w) (k + 3) f fd ["row", "rows"] (spPtX K cP cT) := by
  refine F.okX sc_put_together (fun vs H Q E h => ?_) (fun cdv A outer s H vs Q E hr h => ?_)
  · obtain ⟨R, L, as, rws, r, rfl, _⟩ := h
    rfl
  · obtain ⟨R, L, as, rws, r, rfl, hrow, eL, hrs, rok, xok, hl4, qP, qT, q⟩ := h
    refine ⟨_, pss_cons (ps_expr (pe_callS (E := WE (fun cls d _ H => E cls d H)) GC hr (by rfl) gC kC bC (fun σ => passAt (takes_of rfl rfl rfl rfl) σ) (pa_cons (pv 0) (pa_cons (pv 1) pa_nil))))
      (pss_cons (ps_set (i := 2) sc_put_together.nd rfl (.inl rfl) (pe_ix ix_tup (pe_ix ix_list (pv 1) pe_int (fun _ _ => rfl)) pe_int (fun _ _ => rfl)))
      (pss_cons (ps_par (i := 3) (j := 4) rfl sc_put_together.nd rfl rfl (by decide) rfl rfl (pa_cons (pe_tup pa_nil) (pa_cons (pe_lst pa_nil) pa_nil)) (by rfl))
      (pss_cons (ps_for (passes_of rfl) rfl (pi_list (pv 1)) (pg_name (i := 5) sc_put_together.nd rfl (.inl rfl))
        (pss_cons (ps_asg (pe_call GB hr (by rfl) gB kB bB .nil pass0 (pa_cons (pv 2) (pa_cons (pv 3) (pa_cons (pv 5) (pa_cons (pe_listRg rfl (by rfl) ml (prg_1 (by rfl) mr (pv 2))) pa_nil))))) (pg_tup rfl (pgs_cons (pg_name (i := 3) sc_put_together.nd rfl (.inl rfl)) (pgs_cons (pg_name (i := 6) sc_put_together.nd rfl (.inl rfl)) pgs_nil))))
        (pss_one (ps_expr (pe_bm PySem.F.plainAttrs_list PySem.F.slot_list_append PySem.F.type_list_append mt_append (pv 4) (pa_cons (pv 6) pa_nil))))))
      (pss_cons (ps_asg (pe_call GB hr (by rfl) gB kB bB .nil pass0 (pa_cons (pv 2) (pa_cons (pv 3) (pa_cons (pv 0) (pa_cons (pv 4) pa_nil))))) (pg_tup rfl (pgs_cons (pg_name (i := 3) sc_put_together.nd rfl (.inl rfl)) (pgs_cons (pg_name (i := 6) sc_put_together.nd rfl (.inl rfl)) pgs_nil))))
      (pss_one (ps_ret (pe_tup (pa_cons (pv 2) (pa_cons (pv 3) (pa_cons (pv 6) pa_nil)))))))))), ?_⟩
    refine ⟨.ref R, rfl, .ref L, rfl, R, L, as, rws, r, rfl, hrow, eL, hrs, rok, xok, hl4, qP, qT, fun npo h8 H1 s1 => ?_⟩
    have la := awLen hrs
    have hm1 := rok.m1
    have hm3 := rok.m3
    have many0 : (rws.length : Int) = r.m := by
      by_cases e : (rws.length : Int) = r.m
      · exact e
      · exact absurd (.inl e) npo
    obtain ⟨a0, as0, ha0⟩ : ∃ a0 as0, as = a0 :: as0 := by
      cases as with
      | nil => rw [List.length_nil] at la; omega
      | cons a l => exact ⟨a, l, rfl⟩
    obtain ⟨x0, hx0, hw0⟩ := awGet (i := 0) (x := a0) hrs (by rw [ha0]; rfl)
    obtain ⟨m, hmx⟩ : ∃ m, m = x0.m := ⟨_, rfl⟩
    have hp : Parts m rws r := by rw [hmx]; exact parts_of rok xok hx0 npo h8
    replace q := q npo h8 m hp
    have many := hp.many
    have few := hp.few
    have pm1 := hp.m1
    have pm3 := hp.m3
    obtain ⟨D0, rs0, eA0, _, _⟩ := id hw0
    rw [← hmx] at eA0
    refine ⟨.ref L, rfl, L, _, 0, .ref a0, rfl, rfl, .inl (.inl (s1 _ _ eL)), awAt0 ha0, a0, _, 0, .int m, rfl, rfl, SqT.of (s1 _ _ eA0), row0, ?_⟩
    refine ⟨Nat.zero_le _, fun D hD => ⟨Nat.zero_le _, fun O hO => ⟨_, _, rfl, ?_⟩⟩⟩
    have sD := same_new (o := .tup []) hD
    have sO := same_new (o := .lst []) hO
    have s2 : Same H (upd (upd H1 D (.tup [])) O (.lst [])) := s1.trans (sD.trans sO)
    refine ⟨.ref L, rfl, L, rfl, ⟨_, .inl (.inl (s2 _ _ eL))⟩, for_list (K := K) (a := L) (xs := as.map V.ref) (fun i σ H3 => ∃ D1 rs1 y5 y6, σ = [some (.ref R), some (.ref L), some (.int m), some (.ref D1), some (.ref O), y5, y6] ∧ H3 D1 = some (.tup (rs1.map V.ref)) ∧ DsAt H3 rs1 (putAll m (rws.take i)).1 ∧
        H3 O = some (.lst ((putAll m (rws.take i)).2.map V.int)) ∧ Same H H3) ⟨D, [], none, none, rfl, sO _ _ upd_same, .nil, upd_same, s2⟩ (fun i σ H3 _ h3 => ?_) (fun i x σ H3 hx h3 => ?_) (fun σ H3 h3 => ?_)⟩
    · obtain ⟨D1, rs1, y5, y6, _, _, _, _, s3⟩ := h3
      exact .inl (.inl (s3 _ _ eL))
    · obtain ⟨D1, rs1, y5, y6, rfl, eD1, hd1, eO, s3⟩ := h3
      rw [List.getElem?_map] at hx
      obtain ⟨a, ha, rfl⟩ := Option.map_eq_some_iff.mp hx
      obtain ⟨xr, hxr, hw⟩ := awGet hrs ha
      obtain ⟨xok, xm⟩ := hp.parts xr (List.mem_of_getElem? hxr)
      have hlx := xok.len
      have ho0 := xok.o0
      have ho1 := xok.o1
      obtain ⟨st, hst⟩ : ∃ st, st = putAll m (rws.take i) := ⟨_, rfl⟩
      rw [← hst] at hd1 eO
      have hl1 : st.1.length ≤ 8 := by
        rw [hst, (putAll_len m _).1]
        have := dsSum_take rws i
        omega
      have hl2 : st.2.length ≤ 3 := by
        rw [hst, (putAll_len m _).2, List.length_take]
        omega
      refine ⟨.int m, rfl, .ref D1, rfl, .ref a, rfl, .int m, rfl, m, rfl, RgOk.of_le (by omega) (by omega) (by omega) (by omega), fun G hG => ?_⟩
      rw [upI_rg]
      have sG := same_new (o := .lst ((upI m).map V.int)) hG
      have hu := upI_len (m := m) (by omega)
      refine ⟨D1, a, G, m, m, xr.o, rs1, st.1, xr.ds, upI m, rfl, sG _ _ eD1, (Same.tups sG).ds hd1, ?_, upd_same, hu, ?_, ho0, by rw [← xm]; exact ho1, by omega, by omega, by omega, by omega, by omega, fun H5 T D2 rs2 s5 eT eD2 hd2 => ?_⟩
      · have := (Same.tups (s3.trans sG)).row hw
        rw [xm] at this
        exact this
      · rw [← xm]
        exact xok.deeds
      refine ⟨T, _, rfl, SqT.of eT, rfl, _, _, rfl, _, _, rfl, rfl, ?_⟩
      have eO5 := s5 _ _ (sG _ _ eO)
      refine ⟨.ref O, rfl, .inl ⟨rfl, _, .inl (.inl eO5)⟩, .int _, rfl, O, _, _, rfl, rfl, eO5, ?_, D2, rs2, _, _, rfl, ?_, ?_, ?_, ?_⟩
      · rw [List.length_map]
        exact small1000 (by omega)
      · rw [upd_ne (ne_of eD2 eO5 (fun z => nomatch z))]
        exact eD2
      · rw [putAll_next hxr, ← hst]
        exact (tups_put eO5).ds hd2
      · rw [upd_same, putAll_next hxr, ← hst]
        show _ = some (HO.lst ((st.2 ++ [_]).map V.int))
        rw [List.map_append]
        rfl
      · intro b u e
        have nb : b ≠ O := by
          intro z
          have z1 := sD _ _ (s1 _ _ e)
          rw [z, hO] at z1
          cases z1
        rw [upd_ne nb]
        exact s5 _ _ (sG _ _ (s3 _ _ e))
    · obtain ⟨D1, rs1, y5, y6, rfl, eD1, hd1, eO, s3⟩ := h3
      rw [List.length_map, la, List.take_length] at hd1 eO
      obtain ⟨l1, l2⟩ := putAll_len m rws
      have ho0 := hp.row.o0
      have ho1 := hp.row.o1
      refine ⟨.int m, rfl, .ref D1, rfl, .ref R, rfl, .ref O, rfl, D1, R, O, m, r.m, r.o, rs1, (putAll m rws).1, r.ds, (putAll m rws).2, rfl, eD1, hd1, (Same.tups s3).row hrow, eO, by rw [l2]; exact many, hp.row.deeds, ho0, ho1, by omega, by omega, by omega, by omega, by omega, fun H5 T D2 rs2 s5 eT eD2 hd2 => ?_⟩
      refine ⟨T, _, rfl, SqT.of eT, rfl, _, _, rfl, _, _, rfl, rfl, ?_⟩
      refine ⟨.int m, rfl, .ref D2, rfl, .int _, rfl, (by show 3 ≤ sizeLine; decide), fun Z hZ => ?_⟩
      have sZ := same_new (o := .tup [.int m, .ref D2, .int ((nuL (putAll m rws).2 (m + (putAll m rws).1.length) r.ds.length).getD r.o.toNat 0)]) hZ
      exact q _ Z (s3.trans (s5.trans sZ)) ⟨D2, rs2, upd_same, sZ _ _ eD2, (Same.tups sZ).ds hd2⟩
/-! ### the word of a refusal -/
structure KF (K : PySem.W.Frag) (mg : Str → Option Value) (cW cP cT n1 n2 n3 n4 n5 : Addr) : Prop where
  gW : mg "WideError" = some (.ref cW)
  gP : mg "NoPair" = some (.ref cP)
  gT : mg "TooMany" = some (.ref cT)
  g1 : mg "NoName" = some (.ref n1)
  g2 : mg "NoRow" = some (.ref n2)
  g3 : mg "NoRule" = some (.ref n3)
  g4 : mg "NoText" = some (.ref n4)
  g5 : mg "Nothing" = some (.ref n5)
  xP : ExcC K cP
  xT : ExcC K cT
  mP : PySem.W.exmOne K (.ref cP) (.ref cW) = some true
  mT : PySem.W.exmOne K (.ref cT) (.ref cW) = some true
  aP : PySem.W.kitAny K (.ref cP) [.ref n1, .ref n2, .ref n3, .ref n4, .ref n5] = some false
  aT : PySem.W.kitAny K (.ref cT) [.ref n1, .ref n2, .ref n3, .ref n4, .ref n5] = some false
  vP : PySem.W.kitOne K (.ref cP) (.type "ValueError") = some true
  vT : PySem.W.kitOne K (.ref cT) (.type "ValueError") = some true
  pp : PySem.W.kitOne K (.ref cP) (.ref cP) = some true
  pt : PySem.W.kitOne K (.ref cP) (.ref cT) = some false
  tp : PySem.W.kitOne K (.ref cT) (.ref cP) = some false
  tt : PySem.W.kitOne K (.ref cT) (.ref cT) = some true
def spKd : Sp := fun vs H Q _ => ∃ (R L : Addr) (as : List Addr) (rws : List Rw) (r : Rw), vs = [.ref R, .ref L] ∧ RwAt H R r ∧ H L = some (.lst (as.map V.ref)) ∧ RwsAt H as rws ∧ RwOk r ∧ (∀ x ∈ rws, RwOk x) ∧ rws.length ≤ 4 ∧
  (pairOff rws r → ∀ H', Same H H' → Q (.str "pair") H') ∧ (¬ pairOff rws r → 8 < r.ds.length + dsSum rws → ∀ H', Same H H' → Q (.str "many") H') ∧ (¬ pairOff rws r → r.ds.length + dsSum rws ≤ 8 → ∀ H', Same H H' → Q (.str (Str.ofString (toString ((r.ds.length + dsSum rws : Nat) : Int)))) H')
theorem ok_kd {f fT cW cP cT n1 n2 n3 n4 n5 : Addr} {fd fdT : FuncData} {k : Nat} (F : Fun K "_law_kind" "_law_kind" s_law_kind f fd) (X : KF K mg cW cP cT n1 n2 n3 n4 n5)
    (GT : FnOk P w K mg base (L2.CX P w) (k + 3) fT fdT ["row", "rows"] (spPtX K cP cT)) (kT : PySem.W.keepIn K (.ref fT) = true) (bT : Binds K fdT ["row", "rows"] []) (gT : mg "put_together" = some (.ref fT))
    (mi : mg "isinstance" = none) (mS : mg "str" = none) (mn : mg "len" = none) (mI : mg "int" = none) (mv : mg "ValueError" = none) : FnOk P w K mg base CX0 (k + 4) f fd ["row", "rows"] spKd := by
  refine F.ok sc_law_kind (fun vs H Q E h => ?_) (fun cdv A outer s H vs Q E hr h => ?_)
  · obtain ⟨R, L, as, rws, r, rfl, _⟩ := h
    rfl
  · obtain ⟨R, L, as, rws, r, rfl, hrow, eL, hrs, rok, xok, hl4, qP, qT, q⟩ := h
    refine ⟨_, pss_cons (ps_set (i := 2) sc_law_kind.nd rfl (.inl rfl) pe_non)
      (pss_cons (ps_set (i := 3) sc_law_kind.nd rfl (.inl rfl) pe_non)
      (pss_mid (ps_try_asT (i := 4) (tb := fun W => tAsg (tCallS (spPtX K cP cT) (WE W) (tCons (tVar 0) (tCons (tVar 1) tNil))) (gName 3)) (ts := fun _ _ _ => tAsg (tVar 4) (gName 2)) (Wout := fun _ _ _ _ => False) rfl rfl sc_law_kind.nd rfl rfl ⟨rfl, by decide, Or.inl X.gW⟩ takes0
          (fun W pn xe tk _ => pss_one (ps_set (i := 3) sc_law_kind.nd rfl (Or.inl rfl) (by exact (pe_callS GT hr rfl gT kT bT (fun σ => passAt tk σ) (by exact (pa_cons (pv 0) (pa_cons (pv 1) pa_nil)))))))
          (fun a oe cls d pn hz hf => pss_one (ps_set (i := 2) sc_law_kind.nd rfl (Or.inl rfl) (pv 4))))
      (pss_cons (ps_if (pt_cmp (pc_isN (pv 2))) (pss_one (ps_ret (pe_callTy call_str_int (by rfl) mS (by decide +kernel) (pa_cons (pe_callB call_len_seq (by rfl) mn PySem.boot_len (pa_cons (pe_ix ix_tup (pv 3) pe_int (fun _ _ => rfl)) pa_nil)) pa_nil)))) pss_nil)
      (pss_cons (ps_if (PW.pt (pw_or (pt_val (pe_callB call_isRT (by rfl) mi (by decide +kernel) (pa_cons (pv 2) (pa_cons (pe_tup (pa_cons (pe_glob (v := .ref n1) (by rfl) X.g1 rfl) (pa_cons (pe_glob (v := .ref n2) (by rfl) X.g2 rfl) (pa_cons (pe_glob (v := .ref n3) (by rfl) X.g3 rfl) (pa_cons (pe_glob (v := .ref n4) (by rfl) X.g4 rfl) (pa_cons (pe_glob (v := .ref n5) (by rfl) X.g5 rfl) pa_nil)))))) pa_nil))))
          (pw_or1 (pt_not (pt_val (pe_callB call_isR (by rfl) mi (by decide +kernel) (pa_cons (pv 2) (pa_cons (pe_bltn (v := .ty "ValueError") (by rfl) mv (by decide +kernel) rfl) pa_nil)))))))) (pss_one (ps_ret pe_str)) pss_nil)
      (pss_one (ps_ret (pe_ix ix_list (pe_lst (pa_cons pe_str (pa_cons pe_str (pa_cons pe_str (pa_cons pe_str pa_nil))))) (pe_op op_add (pe_callTy call_int1 (by rfl) mI (by decide +kernel) (pa_cons (pe_callB call_isR (by rfl) mi (by decide +kernel) (pa_cons (pv 2) (pa_cons (pe_glob (v := .ref cP) (by rfl) X.gP rfl) pa_nil))) pa_nil))
          (pe_op op_mul pe_int (pe_callTy call_int1 (by rfl) mI (by decide +kernel) (pa_cons (pe_callB call_isR (by rfl) mi (by decide +kernel) (pa_cons (pv 2) (pa_cons (pe_glob (v := .ref cT) (by rfl) X.gT rfl) pa_nil))) pa_nil)))) (fun _ _ => rfl)))))))), ?_⟩
    refine ⟨fun σ2 H2 => ∃ y2 y3, σ2 = [some (.ref R), some (.ref L), some y2, some y3, none] ∧ Same H H2 ∧ ((¬ pairOff rws r ∧ r.ds.length + dsSum rws ≤ 8 ∧ y2 = .non ∧ ∃ m Z, y3 = .ref Z ∧ RwAt H2 Z (putF m rws r)) ∨ (∃ a, y2 = .ref a ∧ ((pairOff rws r ∧ H2 a = some (ExR (.ref cP) a)) ∨ (¬ pairOff rws r ∧ 8 < r.ds.length + dsSum rws ∧ H2 a = some (ExR (.ref cT) a))))), ?_, ?_⟩
    · refine ⟨.ref R, rfl, .ref L, rfl, R, L, as, rws, r, rfl, hrow, eL, hrs, rok, xok, hl4, fun po H2 s2 => ?_, fun npo h8 H2 s2 => ?_, fun npo h8 m hp H2 Z s2 hZ => ?_⟩
      · exact ⟨true, X.mP, fun _ => ⟨rfl, fun a ha => ⟨.ref a, rfl, _, _, rfl, s2.trans (same_new ha), .inr ⟨a, rfl, .inl ⟨po, upd_same⟩⟩⟩⟩, fun z => Bool.noConfusion z⟩
      · exact ⟨true, X.mT, fun _ => ⟨rfl, fun a ha => ⟨.ref a, rfl, _, _, rfl, s2.trans (same_new ha), .inr ⟨a, rfl, .inr ⟨npo, h8, upd_same⟩⟩⟩⟩, fun z => Bool.noConfusion z⟩
      · exact ⟨_, _, rfl, s2, .inl ⟨npo, h8, rfl, m, Z, rfl, hZ⟩⟩
    · rintro σ2 H2 ⟨y2, y3, rfl, s2, h | ⟨a, rfl, h⟩⟩
      · obtain ⟨npo, h8, rfl, m, Z, rfl, hZ⟩ := h
        obtain ⟨D, rs, eZ, eD, hd⟩ := id hZ
        have el : (((rs.map V.ref).length : Nat) : Int) = ((r.ds.length + dsSum rws : Nat) : Int) := by
          rw [List.length_map, awLen hd]
          show (((_ ++ List.map _ _).length : Nat) : Int) = _
          rw [List.length_append, List.length_map, (putAll_len m rws).1]
          omega
        refine ⟨.non, rfl, true, rfl, .ref Z, rfl, Z, _, 1, .ref D, rfl, rfl, SqT.of eZ, rfl, D, _, rfl, .inr (SqT.of eD), _, rfl, log_small (by rw [el]; omega), ?_⟩
        rw [el]
        exact q npo h8 H2 s2
      · refine ⟨.ref a, rfl, false, rfl, ?_⟩
        rcases h with ⟨po, ea⟩ | ⟨npo, h8, ea⟩
        · refine ⟨.ref a, rfl, (by show 5 ≤ sizeLine; decide), fun T hT => ?_⟩
          have sT := same_new (o := .tup [.ref n1, .ref n2, .ref n3, .ref n4, .ref n5]) hT
          have ea1 := sT _ _ ea
          refine ⟨a, cP, T, _, _, false, rfl, ea1, X.xP, upd_same, .cons (.own _) (.cons (.own _) (.cons (.own _) (.cons (.own _) (.cons (.own _) .nil)))), X.aP, false, rfl, ?_⟩
          refine ⟨.ref a, rfl, a, cP, .ty "ValueError", .type "ValueError", true, rfl, ea1, X.xP, .ty _, X.vP, true, rfl, ?_⟩
          refine ⟨(by show 4 ≤ sizeLine; decide), fun M hM => ?_⟩
          have sM := same_new (o := .lst [.str "", .str "pair", .str "many", .str "odd"]) hM
          have ea2 := sM _ _ ea1
          refine ⟨.ref a, rfl, a, cP, .ref cP, .ref cP, true, rfl, ea2, X.xP, .own _, X.pp, .inr ⟨true, rfl, ?_⟩⟩
          refine ⟨.ref a, rfl, a, cP, .ref cT, .ref cT, false, rfl, ea2, X.xP, .own _, X.pt, .inr ⟨false, rfl, 2, _, rfl, rfl, .inr ⟨by decide, by decide⟩, _, _, rfl, rfl, M, _, _, .str "pair", rfl, rfl, .inl (.inl upd_same), rfl, qP po _ (s2.trans (sT.trans sM))⟩⟩
        · refine ⟨.ref a, rfl, (by show 5 ≤ sizeLine; decide), fun T hT => ?_⟩
          have sT := same_new (o := .tup [.ref n1, .ref n2, .ref n3, .ref n4, .ref n5]) hT
          have ea1 := sT _ _ ea
          refine ⟨a, cT, T, _, _, false, rfl, ea1, X.xT, upd_same, .cons (.own _) (.cons (.own _) (.cons (.own _) (.cons (.own _) (.cons (.own _) .nil)))), X.aT, false, rfl, ?_⟩
          refine ⟨.ref a, rfl, a, cT, .ty "ValueError", .type "ValueError", true, rfl, ea1, X.xT, .ty _, X.vT, true, rfl, ?_⟩
          refine ⟨(by show 4 ≤ sizeLine; decide), fun M hM => ?_⟩
          have sM := same_new (o := .lst [.str "", .str "pair", .str "many", .str "odd"]) hM
          have ea2 := sM _ _ ea1
          refine ⟨.ref a, rfl, a, cT, .ref cP, .ref cP, false, rfl, ea2, X.xT, .own _, X.tp, .inr ⟨false, rfl, ?_⟩⟩
          refine ⟨.ref a, rfl, a, cT, .ref cT, .ref cT, true, rfl, ea2, X.xT, .own _, X.tt, .inr ⟨true, rfl, 2, _, rfl, rfl, .inr ⟨by decide, by decide⟩, _, _, rfl, rfl, M, _, _, .str "many", rfl, rfl, .inl (.inl upd_same), rfl, qT npo h8 _ (s2.trans (sT.trans sM))⟩⟩
/-! ### rows as data that is compared -/
theorem dp_deeds {K : PySem.W.Frag} {H : Hp} : ∀ {rs : List Addr} {ds : List Deed}, DsAt H rs ds → DpAll K H (rs.map V.ref) (ds.map deedD)
  | _, _, .nil => .nil
  | _, _, .cons h t => .cons (.tup (SqT.of h) (.cons (.str _) (dp_ints _))) (dp_deeds t)
theorem dp_row {K : PySem.W.Frag} {H : Hp} {R : Addr} {m o : Int} {ds : List Deed} (h : RowAt H R m ds o) : Dp K H (.ref R) (rowD m ds o) := by
  obtain ⟨D, rs, e1, e2, e3⟩ := h
  exact .tup (SqT.of e1) (.cons (.int m) (.cons (.tup (SqT.of e2) (dp_deeds e3)) (.cons (.int o) .nil)))
def rwD (r : Rw) : PyData := rowD r.m r.ds r.o
theorem dp_rws {K : PySem.W.Frag} {H : Hp} : ∀ {as : List Addr} {rws : List Rw}, RwsAt H as rws → DpAll K H (as.map V.ref) (rws.map rwD)
  | _, _, .nil => .nil
  | _, _, .cons h t => .cons (dp_row h) (dp_rws t)
theorem lay_deed {m : Int} {d : Deed} (h : DeedOk m d) : PyData.canLay0 (deedD d) = true ∧ PyData.depth (deedD d) ≤ 1 := by
  obtain ⟨h1, h2⟩ := lay_ints d.2
  have hw : PyData.strOk d.1 = true := fw_ok _ (List.mem_map.mpr ⟨_, h.word, rfl⟩)
  unfold deedD
  simp only [PyData.canLay0, PyData.canLayAll0, PyData.depth, PyData.depthAll, h1, h2, hw, Bool.and_self, Nat.max_self, true_and]
  decide
theorem lay_deeds {m : Int} : ∀ {ds : List Deed}, DsOk m ds → PyData.canLayAll0 (ds.map deedD) = true ∧ PyData.depthAll (ds.map deedD) ≤ 1
  | ds, h => by
    have key : ∀ l : List Deed, (∀ d ∈ l, ∃ m, DeedOk m d) → PyData.canLayAll0 (l.map deedD) = true ∧ PyData.depthAll (l.map deedD) ≤ 1 := by
      intro l
      induction l with
      | nil => intro _; exact ⟨by simp only [List.map_nil, PyData.canLayAll0], by simp only [List.map_nil, PyData.depthAll]; decide⟩
      | cons d l ih =>
        intro hl
        obtain ⟨a1, a2⟩ := ih fun x hx => hl x (List.mem_cons_of_mem _ hx)
        obtain ⟨m, hm⟩ := hl d List.mem_cons_self
        obtain ⟨b1, b2⟩ := lay_deed hm
        refine ⟨by simp only [List.map_cons, PyData.canLayAll0, a1, b1, Bool.and_self], ?_⟩
        simp only [List.map_cons, PyData.depthAll]
        omega
    refine key ds fun d hd => ?_
    obtain ⟨k, hk⟩ := List.mem_iff_getElem?.mp hd
    exact ⟨_, h.each k d hk⟩
theorem lay_row {m o : Int} {ds : List Deed} (h : DsOk m ds) : PyData.canLay0 (rowD m ds o) = true ∧ PyData.depth (rowD m ds o) ≤ 3 := by
  obtain ⟨h1, h2⟩ := lay_deeds h
  unfold rowD
  refine ⟨by simp only [PyData.canLay0, PyData.canLayAll0, h1, Bool.and_self], ?_⟩
  simp only [PyData.depth, PyData.depthAll]
  omega
theorem shaped_rws {rws : List Rw} (h : ∀ r ∈ rws, RwOk r) : SeqAt.shaped (.list (rws.map rwD)) = true := by
  have key : ∀ l : List Rw, (∀ r ∈ l, RwOk r) → PyData.canLayAll0 (l.map rwD) = true ∧ PyData.depthAll (l.map rwD) ≤ 3 := by
    intro l
    induction l with
    | nil => intro _; exact ⟨by simp only [List.map_nil, PyData.canLayAll0], by simp only [List.map_nil, PyData.depthAll]; decide⟩
    | cons r l ih =>
      intro hl
      obtain ⟨a1, a2⟩ := ih fun x hx => hl x (List.mem_cons_of_mem _ hx)
      obtain ⟨b1, b2⟩ := lay_row (o := r.o) (hl r List.mem_cons_self).deeds
      have b1' : PyData.canLay0 (rwD r) = true := b1
      have b2' : PyData.depth (rwD r) ≤ 3 := b2
      refine ⟨by simp only [List.map_cons, PyData.canLayAll0, a1, b1', Bool.and_self], ?_⟩
      simp only [List.map_cons, PyData.depthAll]
      omega
  obtain ⟨h1, h2⟩ := key rws h
  have c1 : PyData.canLay0 (.list (rws.map rwD)) = true := by simp only [PyData.canLay0, h1]
  have c2 : PyData.depth (.list (rws.map rwD)) ≤ 64 := by
    have e : PyData.depth (.list (rws.map rwD)) ≤ PyData.depthAll (rws.map rwD) + 1 := by simp only [PyData.depth]; omega
    omega
  unfold SeqAt.shaped
  rw [c1, decide_eq_true c2]
  rfl
theorem lay_pair {rws : List Rw} {r : Rw} (h : ∀ r ∈ rws, RwOk r) (hr : RwOk r) : PyData.canLay0 (.tuple [rwD r, .list (rws.map rwD)]) = true := by
  have h1 : PyData.canLay0 (.list (rws.map rwD)) = true := by
    have := shaped_rws h
    unfold SeqAt.shaped at this
    rw [Bool.and_eq_true] at this
    exact this.1
  have h2 : PyData.canLay0 (rwD r) = true := (lay_row hr.deeds).1
  simp only [PyData.canLay0, PyData.canLayAll0, Bool.and_true] at h1 ⊢
  rw [h1, h2]
  rfl
theorem nice_rws {rws : List Rw} {r : Rw} (h : ∀ r ∈ rws, RwOk r) (hr : RwOk r) (hl : rws.length ≤ 4) : Nice 4000 5 (.tuple [rwD r, .list (rws.map rwD)]) := by
  refine nice_tup (b := 1900) (k := 4) (fun x hx => ?_) (by simp only [List.length_cons, List.length_nil]; decide)
  simp only [List.mem_cons, List.not_mem_nil, or_false] at hx
  rcases hx with rfl | rfl
  · exact (nice_row hr).mono (by decide) (by decide)
  · refine (nice_lst (b := 459) (k := 3) (n := 1840) (fun x hx => ?_) ?_).mono (by decide) (by decide)
    · obtain ⟨y, hy, rfl⟩ := List.mem_map.mp hx
      exact nice_row (h y hy)
    · rw [List.length_map]
      omega
/-! ### the law -/
theorem cutHead (x : V) (xs : List V) : cutV (x :: xs) none (some 1) = [x] := by
  have h1 : HT.sIx (x :: xs).length 0 none = 0 := HT.sIx_none _ _
  have h2 : HT.sIx (x :: xs).length (x :: xs).length (some 1) = min 1 (x :: xs).length := HT.sIx_nat _ _ 1
  unfold cutV
  rw [h1, h2, List.length_cons]
  have h3 : min 1 (xs.length + 1) - 0 = 1 := by omega
  rw [h3]
  rfl
theorem awSet {α β : Type} {F : α → β → Prop} {x : α} {y : β} (h : F x y) : ∀ {l : List α} {l2 : List β} (j : Nat), Paired F l l2 → Paired F (l.set j x) (l2.set j y)
  | _, _, _, .nil => .nil
  | _, _, 0, .cons _ t => .cons h t
  | _, _, j + 1, .cons r t => .cons r (awSet h j t)
theorem off_len {rws : List Rw} {r : Rw} (h : ¬ (rws.length : Int) = r.m) : pairOff rws r := .inl h
theorem on_all {rws : List Rw} {r : Rw} {m : Int} (h : (rws.length : Int) = r.m) (hm : ∀ x ∈ rws, x.m = m) : ¬ pairOff rws r := by
  rintro (z | ⟨x, hx, x0, h0, z⟩)
  · exact z h
  · exact z ((hm x hx).trans (hm x0 (List.mem_of_getElem? h0)).symm)
theorem off_set {rws : List Rw} {r x : Rw} {m : Int} {j : Nat} (hm : ∀ x ∈ rws, x.m = m) (hj : j < rws.length) (h2 : 2 ≤ rws.length) (hx : ¬ x.m = m) : pairOff (rws.set j x) r := by
  right
  by_cases e : j = 0
  · subst e
    have g1 : (rws.set 0 x)[1]? = some rws[1] := by
      rw [List.getElem?_set_ne (by decide)]
      exact List.getElem?_eq_getElem (by omega)
    have g0 : (rws.set 0 x)[0]? = some x := List.getElem?_set_self (by omega)
    exact ⟨_, List.mem_of_getElem? g1, x, g0, fun z => hx (z.symm.trans (hm _ (List.getElem_mem _)))⟩
  · have g1 : (rws.set j x)[j]? = some x := List.getElem?_set_self hj
    have g0 : (rws.set j x)[0]? = some rws[0] := by
      rw [List.getElem?_set_ne e]
      exact List.getElem?_eq_getElem (by omega)
    exact ⟨x, List.mem_of_getElem? g1, _, g0, fun z => hx (z.trans (hm _ (List.getElem_mem _)))⟩
theorem sumI : ∀ l : List Rw, (l.map fun r => (r.ds.length : Int)).sum = ((dsSum l : Nat) : Int) := by
  intro l
  unfold dsSum
  induction l with
  | nil => rfl
  | cons x l ih => rw [List.map_cons, List.map_cons, List.sum_cons, List.sum_cons, ih]; omega
theorem two_at {x y : Int} (b : Bool) : atI [V.int x, .int y] (if b then 1 else 0) = some (.int (if b then y else x)) := by
  cases b
  · exact atI_nat (j := 0) rfl
  · exact atI_nat (j := 1) rfl
theorem two_ats {x y : Str} (b : Bool) : atI [V.str x, .str y] (if b then 1 else 0) = some (.str (if b then y else x)) := by
  cases b
  · exact atI_nat (j := 0) rfl
  · exact atI_nat (j := 1) rfl
def dueOk (rws : List Rw) (r : Rw) (d : Str) : Prop := (pairOff rws r ∧ d = "pair") ∨ (¬ pairOff rws r ∧ 8 < r.ds.length + dsSum rws ∧ d = "many") ∨ (¬ pairOff rws r ∧ r.ds.length + dsSum rws ≤ 8 ∧ d = Str.ofString (toString ((r.ds.length + dsSum rws : Nat) : Int)))
set_option maxHeartbeats 4000000 in
theorem law_run {fa fWe fDr fRo fKd : Addr} {fd fdWe fdDr fdRo fdKd : FuncData} {s : Shared} {a : Addr} {ns : List Int} {H : Hp} (F : Fun K "law" "law" s_law fa fd) (bL : Binds K fd ["script"] [])
    (GW : FnOk P w K mg base CX0 1 fWe fdWe ["script"] (spWell K)) (kW : PySem.W.keepIn K (.ref fWe) = true) (bW : Binds K fdWe ["script"] []) (gW : mg "_law_well" = some (.ref fWe))
    (GD : FnOk P w K mg base CX0 1 fDr fdDr ["well", "many"] spDraw) (kD : PySem.W.keepIn K (.ref fDr) = true) (bD : Binds K fdDr ["well", "many"] []) (gD : mg "_law_draw" = some (.ref fDr))
    (GR : FnOk P w K mg base CX0 3 fRo fdRo ["well", "many", "most"] spRow) (kR : PySem.W.keepIn K (.ref fRo) = true) (bR : Binds K fdRo ["well", "many", "most"] []) (gR : mg "_law_row" = some (.ref fRo))
    (GK : FnOk P w K mg base CX0 4 fKd fdKd ["row", "rows"] spKd) (kK : PySem.W.keepIn K (.ref fKd) = true) (bK : Binds K fdKd ["row", "rows"] []) (gK : mg "_law_kind" = some (.ref fKd))
    (mr : mg "range" = none) (mp : mg "repr" = none) (mn : mg "len" = none) (ms : mg "sum" = none) (mI : mg "int" = none) (mS : mg "str" = none) (hlen : ns.length ≤ 63) (hbits : ∀ z ∈ ns, Builtin.Int.intBits z ≤ 1048576) (e0 : Env0 P w K mg base callerA [] s H) (hS : SqL K H a (ns.map V.int)) :
    codeAny (model P w) callerA (.call (.ref fa) ⟨[.ref a], []⟩) (CR CX0 [] P w H s (fun v _ => v = .bl true) E0) s := by
  refine fn_at (k := 5) (us := [.ref a]) (vs := [.ref a]) F sc_law ⟨rfl, by decide, by decide⟩ e0 ?_ (.cons rfl .nil) rfl (fun cdv => ?_)
  · have := bL s [.ref a] (e0.mod.kin.keeps fun b o e => (e0.bs b o e).1) rfl
    simpa using this
  have hr : Room 5 (callerA.deeper (envOfC "law" (defScope s_law) s.heap.objs.size fa cdv)) := Room.deeper (k := 5) ⟨rfl, by decide, by decide⟩ _
  have hg : (callerA.deeper (envOfC "law" (defScope s_law) s.heap.objs.size fa cdv)).guards = some [] := rfl
  have R1 := hr.mono (show 1 ≤ 5 by decide)
  have R3 := hr.mono (show 3 ≤ 5 by decide)
  have R4 := hr.mono (show 4 ≤ 5 by decide)
  refine ⟨_, pss_cons (ps_set (i := 1) sc_law.nd rfl (.inr rfl) (pe_call GW R1 (by rfl) gW kW bW .nil pass0 (pa_cons (pv 0) pa_nil)))
    (pss_cons (ps_for PassesOwn.never rfl (pi_range1 (by rfl) mr (pa_cons pe_int pa_nil)) (pg_name (i := 2) sc_law.nd rfl (.inl rfl))
      (pss_cons (ps_set (i := 3) sc_law.nd rfl (.inl rfl) (pe_call GD R1 (by rfl) gD kD bD .nil pass0 (pa_cons (pv 1) (pa_cons pe_int pa_nil))))
      (pss_cons (ps_set (i := 4) sc_law.nd rfl (.inr rfl) (pe_cmpR op_eq (pe_call GD R1 (by rfl) gD kD bD .nil pass0 (pa_cons (pv 1) (pa_cons pe_int pa_nil))) pe_int (nomark _)))
      (pss_cons (ps_set (i := 5) sc_law.nd rfl (.inl rfl) (pe_op op_add pe_int (pe_call GD R1 (by rfl) gD kD bD .nil pass0 (pa_cons (pv 1) (pa_cons pe_int pa_nil)))))
      (pss_cons (ps_set (i := 6) sc_law.nd rfl (.inr rfl) (pe_op op_add pe_int (pe_call GD R1 (by rfl) gD kD bD .nil pass0 (pa_cons (pv 1) (pa_cons pe_int pa_nil)))))
      (pss_cons (ps_set (i := 7) sc_law.nd rfl (.inl rfl) (pe_call GR R3 (by rfl) gR kR bR .nil pass0 (pa_cons (pv 1) (pa_cons (pv 5) (pa_cons (pe_ix ix_list (pe_lst (pa_cons pe_int (pa_cons pe_int pa_nil))) (pe_callTy call_int1 (by rfl) mI (by decide +kernel) (pa_cons (pv 4) pa_nil)) (fun _ _ => rfl)) pa_nil)))))
      (pss_cons (ps_setLc (i := 8) (own := [("k", 12)]) (g := gName 12) (by rfl) sc_law.nd rfl rfl (sw_true rfl rfl rfl (by decide +kernel)) (pi_range1 (by rfl) mr (pa_cons (pv 5) pa_nil)) (blkOk_by (own := [("k", 12)]) (N := N_law) (sc := defScope s_law) (by decide +kernel))
          (fun _ _ _ _ _ => pg_name (i := 12) sc_law.nd rfl (Or.inl rfl)) (fun _ _ _ _ _ => pts_nil) (fun _ _ _ _ _ => pe_call GR R3 (by rfl) gR kR bR .nil pass0 (pa_cons (pv 1) (pa_cons (pv 6) (pa_cons (pe_ix (r := rIxL K) ix_list (pe_lst (pa_cons pe_int (pa_cons pe_int pa_nil))) (pe_callTy call_int1 (by rfl) mI (by decide +kernel) (pa_cons (pv 4) pa_nil)) (fun _ _ => rfl)) pa_nil)))))
      (pss_cons (ps_set (i := 9) sc_law.nd rfl (.inl rfl) pe_str)
      (pss_mid (ps_if (pt_cmpR op_lt (pv 3) pe_int (nomark _))
        (pss_cons (ps_set (i := 8) sc_law.nd rfl (.inl rfl) (pe_ix ix_list (pe_lst (pa_cons (pe_slice sl_list (pv 8) (po_some pe_int) po_none) (pa_cons (pe_op op_cat (pv 8) (pe_slice sl_list (pv 8) po_none (po_some pe_int))) (pa_cons (pe_lst pa_nil) pa_nil)))) (pv 3) (fun _ _ => rfl)))
        (pss_one (ps_set (i := 9) sc_law.nd rfl (.inl rfl) pe_str))) pss_nil)
      (pss_mid (ps_if (PW.pt (pw_and (pt_chain op_lt op_lt pe_int (pv 3) pe_int) (pw_and1 (pt_cmpR op_gt (pv 5) pe_int (nomark _)))))
        (pss_cons (ps_asg (pe_call GR R3 (by rfl) gR kR bR .nil pass0 (pa_cons (pv 1) (pa_cons (pe_op op_add pe_int (pe_op op_mod (pv 6) pe_int)) (pa_cons (pe_ix ix_list (pe_lst (pa_cons pe_int (pa_cons pe_int pa_nil))) (pe_callTy call_int1 (by rfl) mI (by decide +kernel) (pa_cons (pv 4) pa_nil)) (fun _ _ => rfl)) pa_nil)))) (pg_sub (pv 8) (pe_call GD R1 (by rfl) gD kD bD .nil pass0 (pa_cons (pv 1) (pa_cons (pv 5) pa_nil))) set_list))
        (pss_one (ps_set (i := 9) sc_law.nd rfl (.inl rfl) pe_str))) pss_nil)
      (pss_cons (ps_set (i := 10) sc_law.nd rfl (.inl rfl) (pe_op op_add (pe_callB call_len_seq (by rfl) mn PySem.boot_len (pa_cons (pe_ix ix_tup (pv 7) pe_int (fun _ _ => rfl)) pa_nil)) (pe_callB (cr_sum rfl) (by rfl) ms (by decide +kernel) (pa_cons
        (pe_lc (own := [("one", 13)]) (g := gName 13) (by rfl) sc_law.nd (pi_list (pv 8)) (blkOk_by (own := [("one", 13)]) (N := N_law) (sc := defScope s_law) (by decide +kernel))
          (fun _ _ _ _ _ => pg_name (i := 13) sc_law.nd rfl (Or.inl rfl)) (fun _ _ _ _ _ => pts_nil)
          (fun _ _ _ _ _ => pe_callB (r := rLen K) call_len_seq (by rfl) mn PySem.boot_len (pa_cons (pe_ix (r := rIxT K) ix_tup (pv 13) pe_int (fun _ _ => rfl)) pa_nil))) pa_nil))))
      (pss_mid (ps_if (pt_cmpR op_eq (pv 9) pe_str (nomark _))
        (pss_one (ps_set (i := 9) sc_law.nd rfl (.inl rfl) (pe_ix ix_list (pe_lst (pa_cons (pe_callTy call_str_int (by rfl) mS (by decide +kernel) (pa_cons (pv 10) pa_nil)) (pa_cons pe_str pa_nil))) (pe_callTy call_int1 (by rfl) mI (by decide +kernel) (pa_cons (pe_cmpR op_gt (pv 10) pe_int (nomark _)) pa_nil)) (fun _ _ => rfl)))) pss_nil)
      (pss_cons (ps_set (i := 11) sc_law.nd rfl (.inl rfl) (pe_callB (call_repr hg hr.units) (by rfl) mp (by decide +kernel) (pa_cons (pe_tup (pa_cons (pv 7) (pa_cons (pv 8) pa_nil))) pa_nil)))
      (pss_one (ps_if (PW.pt (pw_or (pt_cmpR op_ne (pe_call GK R4 (by rfl) gK kK bK .nil pass0 (pa_cons (pv 7) (pa_cons (pv 8) pa_nil))) (pv 9) (nomark _))
          (pw_or1 (pt_cmpR op_ne (pe_callB (call_repr hg hr.units) (by rfl) mp (by decide +kernel) (pa_cons (pe_tup (pa_cons (pv 7) (pa_cons (pv 8) pa_nil))) pa_nil)) (pv 11) (nomark _)))))
        (pss_one (ps_ret pe_bl)) pss_nil)))))))))))))))
    (pss_one (ps_ret pe_bl))), ?_⟩
  refine ⟨.ref a, rfl, a, ns, rfl, hS, hlen, hbits, fun H1 p c s1 hp hc w1 => ?_⟩
  refine ⟨8, rfl, by decide, by decide, for_range (lo := 0) (n := 8) (fun i σ H3 => (∃ y2 y3 y4 y5 y6 y7 y8 y9 y10 y11, σ = [some (.ref a), some (.ref p), y2, y3, y4, y5, y6, y7, y8, y9, y10, y11, none, none]) ∧ WL H3 p c) ⟨⟨none, none, none, none, none, none, none, none, none, none, rfl⟩, w1⟩ (fun i σ H3 hi hp => ?_) (fun σ H3 hp => rfl)⟩
  obtain ⟨⟨y2, y3, y4, y5, y6, y7, y8, y9, y10, y11, rfl⟩, w3⟩ := hp
  refine ⟨.ref p, rfl, p, c, 7, rfl, by decide, by decide, w3, fun H4 wy wy0 wy1 w4 k4 => ?_⟩
  refine ⟨.ref p, rfl, p, c, 2, rfl, by decide, by decide, w4, fun H5 z0 z00 z01 w5 k5 => ⟨rfl, ?_⟩⟩
  obtain ⟨gb, hgb⟩ : ∃ gb : Bool, gb = decide (V.int z0 = V.int 0) := ⟨_, rfl⟩
  rw [← hgb]
  refine ⟨.ref p, rfl, p, c, 3, rfl, by decide, by decide, w5, fun H6 z1 z10 z11 w6 k6 => ⟨1, z1, rfl, rfl, ?_⟩⟩
  refine ⟨.ref p, rfl, p, c, 3, rfl, by decide, by decide, w6, fun H7 z2 z20 z21 w7 k7 => ⟨1, z2, rfl, rfl, ?_⟩⟩
  refine ⟨.ref p, rfl, .int (1 + z1), rfl, (by show 2 ≤ sizeLine; decide), fun M hM => ⟨.bl gb, rfl, .inr ⟨gb, rfl, M, _, _, _, rfl, rfl, .inl (.inl upd_same), two_at gb, ?_⟩⟩⟩
  have w8 := w7.same (same_new (o := .lst [.int 3, .int 8]) hM)
  have hu : 0 ≤ (if gb then (8 : Int) else 3) ∧ (if gb then (8 : Int) else 3) ≤ 8 := by split <;> omega
  refine ⟨p, c, 1 + z1, _, rfl, by omega, by omega, hu.1, hu.2, w8, fun H9 R ds o hrow hok hl8 w9 k9 => ?_⟩
  refine ⟨.int (1 + z1), rfl, 1 + z1, rfl, by omega, by omega, fun L hL => ?_⟩
  obtain ⟨nLp, nLc⟩ := w9.ne_new hL
  have hu2 : 0 ≤ (if gb then (8 : Int) else 2) ∧ (if gb then (8 : Int) else 2) ≤ 8 := by split <;> omega
  refine lc_range (lo := 0) (n := (1 + z1).toNat) (fun i H4 => ∃ as rws, H4 L = some (.lst (as.map V.ref)) ∧ RwsAt H4 as rws ∧ rws.length = i ∧ (∀ x ∈ rws, RwOk x ∧ x.m = 1 + z2) ∧ WL H4 p c ∧ Kp p c H9 H4) ⟨[], [], upd_same, .nil, rfl, (fun _ z => nomatch z), w9.upd nLp nLc, Same.kp (same_new hL)⟩ (fun i H4 hi h4 => ?_) (fun H10 h10 => ?_)
  · obtain ⟨as, rws, eL, hrs, hli, hall, wA, kA⟩ := h4
    refine ⟨rfl, .ref p, rfl, .int (1 + z2), rfl, (by show 2 ≤ sizeLine; decide), fun M2 hM2 => ⟨.bl gb, rfl, .inr ⟨gb, rfl, M2, _, _, _, rfl, rfl, .inl (.inl upd_same), two_at gb, ?_⟩⟩⟩
    have sM2 := same_new (o := .lst [.int 2, .int 8]) hM2
    have wB := wA.same sM2
    refine ⟨p, c, 1 + z2, _, rfl, by omega, by omega, hu2.1, hu2.2, wB, fun H11 R2 ds2 o2 hrow2 hok2 hl2 w11 k11 => ?_⟩
    have eL10 := k11 _ _ nLp nLc (sM2 _ _ eL)
    refine ⟨_, eL10, ?_, as ++ [R2], rws ++ [⟨1 + z2, ds2, o2⟩], ?_, ?_, ?_, ?_, w11.upd nLp nLc, ?_⟩
    · rw [List.length_map, awLen hrs]
      exact small1000 (by omega)
    · rw [upd_same, List.map_append]
      rfl
    · exact stayRws (tups_put eL10) (awSnoc (F := RwAt H11) (y := ⟨1 + z2, ds2, o2⟩) hrow2 (stayRws (k11.tups wB) (stayRws (Same.tups sM2) hrs)))
    · rw [List.length_append, hli]
      rfl
    · intro x hx
      rcases List.mem_append.mp hx with hx | hx
      · exact hall x hx
      · rw [List.mem_singleton.mp hx]
        exact ⟨hok2, rfl⟩
    · intro b u n1 n2 e
      rw [upd_ne (ne_of_none e hL)]
      exact k11 b u n1 n2 (sM2 _ _ (kA b u n1 n2 e))
  obtain ⟨as, rws, eL, hrs, hli, hall, w10, k10⟩ := h10
  have la := awLen hrs
  obtain ⟨r0, hr0⟩ : ∃ r0 : Rw, r0 = ⟨1 + z1, ds, o⟩ := ⟨_, rfl⟩
  have rok : RwOk r0 := by rw [hr0]; exact hok
  have rm : r0.m = 1 + z1 := by rw [hr0]
  have hR10 : RwAt H10 R r0 := by rw [hr0]; exact (k10.tups w9).row hrow
  have h8 := rok.len
  -- the lists bent
  refine ⟨fun σ H' => ∃ L2 as2 rws2 d, σ = [some (.ref a), some (.ref p), some (.int (0 + (i : Int))), some (.int wy), some (.bl gb), some (.int (1 + z1)), some (.int (1 + z2)), some (.ref R), some (.ref L2), some (.str d), y10, y11, none, none] ∧ RwAt H' R r0 ∧ H' L2 = some (.lst (as2.map V.ref)) ∧ RwsAt H' as2 rws2 ∧ (∀ x ∈ rws2, RwOk x) ∧ rws2.length ≤ 4 ∧ L2 ≠ p ∧ L2 ≠ c ∧ WL H' p c ∧
    ((wy < 3 ∧ d = "pair" ∧ pairOff rws2 r0) ∨ (3 ≤ wy ∧ d = "" ∧ (rws2.length : Int) = 1 + z1 ∧ ∀ x ∈ rws2, x.m = 1 + z2)), ?_, ?_⟩
  · refine ⟨.int wy, rfl, wy, 3, rfl, rfl, _, rfl, ite2 (fun hlt => ?_) (fun hge => ?_)⟩
    · have hlt2 := of_decide_eq_true hlt
      obtain ⟨a0, as0, ha0⟩ : ∃ a0 as0, as = a0 :: as0 := by
        cases as with
        | nil => rw [List.length_nil] at la; omega
        | cons b l => exact ⟨b, l, rfl⟩
      obtain ⟨x0, rws0, hx0⟩ : ∃ x0 rws0, rws = x0 :: rws0 := by
        cases rws with
        | nil => rw [List.length_nil] at hli; omega
        | cons b l => exact ⟨b, l, rfl⟩
      subst ha0 hx0
      obtain ⟨hp0, hp1⟩ : RwAt H10 a0 x0 ∧ RwsAt H10 as0 rws0 := by
        cases hrs with
        | cons h t => exact ⟨h, t⟩
      refine ⟨.ref L, rfl, 1, rfl, L, _, rfl, .inl (.inl eL), fun A1 hA1 => ?_⟩
      rw [show cutV ((a0 :: as0).map V.ref) (some 1) none = as0.map V.ref from cutTail _ _]
      have sA1 := same_new (o := .lst (as0.map V.ref)) hA1
      refine ⟨.ref L, rfl, .ref L, rfl, 1, rfl, L, _, rfl, .inl (.inl (sA1 _ _ eL)), fun A2 hA2 => ?_⟩
      rw [show cutV ((a0 :: as0).map V.ref) none (some 1) = [V.ref a0] from cutHead _ _]
      have sA2 := same_new (o := .lst [.ref a0]) hA2
      refine ⟨L, A2, _, _, rfl, rfl, sA2 _ _ (sA1 _ _ eL), upd_same, ?_, fun A3 hA3 => ?_⟩
      · rw [List.length_map]
        exact Nat.le_of_lt (small1000 (by show (a0 :: as0).length + 1 ≤ 1000; omega))
      have e3 : (a0 :: as0).map V.ref ++ [V.ref a0] = ((a0 :: as0) ++ [a0]).map V.ref := by rw [List.map_append]; rfl
      rw [e3]
      have sA3 := same_new (o := .lst (((a0 :: as0) ++ [a0]).map V.ref)) hA3
      refine ⟨Nat.zero_le _, fun A4 hA4 => ?_⟩
      have sA4 := same_new (o := .lst []) hA4
      refine ⟨(by show 3 ≤ sizeLine; decide), fun A5 hA5 => ?_⟩
      have sA5 := same_new (o := .lst [.ref A1, .ref A3, .ref A4]) hA5
      have s45 := sA4.trans sA5
      have s35 := sA3.trans s45
      have s25 := sA2.trans s35
      have s15 := sA1.trans s25
      have w15 := w10.same s15
      have nw : ∀ {b : Addr} {Hb : Hp} {o : HO}, Same H10 Hb → Hb b = none → b ≠ p ∧ b ≠ c := fun sm hb => (w10.same sm).ne_new hb
      obtain ⟨q1, q2⟩ := nw (o := .lst []) (Same.refl _) hA1
      obtain ⟨q3, q4⟩ := nw (o := .lst []) (sA1.trans sA2) hA3
      obtain ⟨q5, q6⟩ := nw (o := .lst []) (sA1.trans (sA2.trans sA3)) hA4
      have all0 : ∀ x ∈ rws0, RwOk x := fun x hx => (hall x (List.mem_cons_of_mem _ hx)).1
      have hj : wy = 0 ∨ wy = 1 ∨ wy = 2 := by omega
      have l0 : rws0.length + 1 = (1 + z1).toNat := by rw [← hli]; rfl
      rcases hj with rfl | rfl | rfl
      · refine ⟨.int 0, rfl, A5, _, 0, .ref A1, rfl, rfl, .inl (.inl upd_same), rfl, A1, as0, rws0, _, rfl, (Same.tups s15).row hR10, s25 _ _ upd_same, stayRws (Same.tups s15) hp1, all0, by omega, q1, q2, w15, .inl ⟨by decide, rfl, off_len (by rw [rm]; omega)⟩⟩
      · refine ⟨.int 1, rfl, A5, _, 1, .ref A3, rfl, rfl, .inl (.inl upd_same), rfl, A3, (a0 :: as0) ++ [a0], (x0 :: rws0) ++ [x0], _, rfl, (Same.tups s15).row hR10, s45 _ _ upd_same, ?_, ?_, ?_, q3, q4, w15, .inl ⟨by decide, rfl, off_len ?_⟩⟩
        · exact stayRws (Same.tups s15) (awSnoc (F := RwAt H10) hp0 hrs)
        · intro x hx
          rcases List.mem_append.mp hx with hx | hx
          · exact (hall x hx).1
          · rw [List.mem_singleton.mp hx]
            exact (hall x0 List.mem_cons_self).1
        · rw [List.length_append]
          show (x0 :: rws0).length + 1 ≤ 4
          rw [hli]
          omega
        · rw [List.length_append, rm, hli]
          show ¬ (((1 + z1).toNat + 1 : Nat) : Int) = 1 + z1
          omega
      · refine ⟨.int 2, rfl, A5, _, 2, .ref A4, rfl, rfl, .inl (.inl upd_same), rfl, A4, [], [], _, rfl, (Same.tups s15).row hR10, sA5 _ _ upd_same, .nil, (fun _ z => nomatch z), by decide, q5, q6, w15, .inl ⟨by decide, rfl, off_len (by rw [rm]; show ¬ (0 : Int) = 1 + z1; omega)⟩⟩
    · have hge2 : 3 ≤ wy := by
        have : ¬ wy < 3 := fun z => hge (decide_eq_true z)
        omega
      exact ⟨L, as, rws, _, rfl, hR10, eL, hrs, fun x hx => (hall x hx).1, by omega, nLp, nLc, w10, .inr ⟨hge2, rfl, by omega, fun x hx => (hall x hx).2⟩⟩
  rintro σ11 H11 ⟨L2, as2, rws2, d, rfl, hR11, eL2, hrs2, ok2, l42, nL2p, nL2c, w11, hcase⟩
  have la2 := awLen hrs2
  refine ⟨fun σ H' => ∃ as3 rws3 d3, σ = [some (.ref a), some (.ref p), some (.int (0 + (i : Int))), some (.int wy), some (.bl gb), some (.int (1 + z1)), some (.int (1 + z2)), some (.ref R), some (.ref L2), some (.str d3), y10, y11, none, none] ∧ RwAt H' R r0 ∧ H' L2 = some (.lst (as3.map V.ref)) ∧ RwsAt H' as3 rws3 ∧ (∀ x ∈ rws3, RwOk x) ∧ rws3.length ≤ 4 ∧ WL H' p c ∧
    ((d3 = "pair" ∧ pairOff rws3 r0) ∨ (d3 = "" ∧ ¬ pairOff rws3 r0)), ?_, ?_⟩
  · have keep : ((d = "pair" ∧ pairOff rws2 r0) ∨ (d = "" ∧ ¬ pairOff rws2 r0)) := by
      rcases hcase with ⟨_, h1, h2⟩ | ⟨_, h1, h2, h3⟩
      · exact .inl ⟨h1, h2⟩
      · exact .inr ⟨h1, on_all (by rw [rm]; exact h2) h3⟩
    have stay := (⟨as2, rws2, d, rfl, hR11, eL2, hrs2, ok2, l42, w11, keep⟩ : ∃ as3 rws3 d3, ([some (.ref a), some (.ref p), some (.int (0 + (i : Int))), some (.int wy), some (.bl gb), some (.int (1 + z1)), some (.int (1 + z2)), some (.ref R), some (.ref L2), some (.str d), y10, y11, none, none] : List (Option V)) = [some (.ref a), some (.ref p), some (.int (0 + (i : Int))), some (.int wy), some (.bl gb), some (.int (1 + z1)), some (.int (1 + z2)), some (.ref R), some (.ref L2), some (.str d3), y10, y11, none, none] ∧ RwAt H11 R r0 ∧ H11 L2 = some (.lst (as3.map V.ref)) ∧ RwsAt H11 as3 rws3 ∧ (∀ x ∈ rws3, RwOk x) ∧ rws3.length ≤ 4 ∧ WL H11 p c ∧ ((d3 = "pair" ∧ pairOff rws3 r0) ∨ (d3 = "" ∧ ¬ pairOff rws3 r0)))
    refine ⟨.int wy, rfl, 2, wy, rfl, rfl, _, rfl, ite2 (fun h2 => ?_) (fun _ => ⟨false, rfl, stay⟩)⟩
    refine ⟨wy, 5, rfl, rfl, _, rfl, ite2 (fun h5 => ?_) (fun _ => stay)⟩
    refine ⟨.int (1 + z1), rfl, 1 + z1, 1, rfl, rfl, _, rfl, ite2 (fun hm => ?_) (fun _ => stay)⟩
    have g2 := of_decide_eq_true h2
    have gm := of_decide_eq_true hm
    obtain ⟨hl2, hm2⟩ : (rws2.length : Int) = 1 + z1 ∧ ∀ x ∈ rws2, x.m = 1 + z2 := by
      rcases hcase with ⟨h, _⟩ | ⟨_, _, h3, h4⟩
      · omega
      · exact ⟨h3, h4⟩
    refine ⟨.ref p, rfl, .int (1 + z2), rfl, 1 + z2, 3, rfl, rfl, (by show (0 : Int) < 3; decide), 1, _, rfl, rfl, (by show 2 ≤ sizeLine; decide), fun M2 hM2 => ⟨.bl gb, rfl, .inr ⟨gb, rfl, M2, _, _, _, rfl, rfl, .inl (.inl upd_same), two_at gb, ?_⟩⟩⟩
    have sM2 := same_new (o := .lst [.int 2, .int 8]) hM2
    have wB := w11.same sM2
    have hmod : 1 ≤ 1 + (1 + z2) % 3 ∧ 1 + (1 + z2) % 3 ≤ 3 ∧ ¬ 1 + (1 + z2) % 3 = 1 + z2 := by omega
    refine ⟨p, c, 1 + (1 + z2) % 3, _, rfl, hmod.1, hmod.2.1, hu2.1, hu2.2, wB, fun H12 R2 ds2 o2 hrow2 hok2 hl2' w12 k12 => ?_⟩
    refine ⟨.ref L2, rfl, .ref p, rfl, .int (1 + z1), rfl, p, c, 1 + z1, rfl, by omega, by omega, w12, fun H13 z6 z60 z61 w13 k13 => ?_⟩
    have eL13 := k13 _ _ nL2p nL2c (k12 _ _ nL2p nL2c (sM2 _ _ eL2))
    have hj : z6.toNat < rws2.length := by omega
    have hix : ixN (as2.map V.ref).length z6 = some z6.toNat := by
      unfold ixN
      rw [if_pos z60, if_pos (by rw [List.length_map, la2]; omega)]
    refine ⟨L2, _, z6, z6.toNat, rfl, rfl, eL13, hix, as2.set z6.toNat R2, rws2.set z6.toNat ⟨1 + (1 + z2) % 3, ds2, o2⟩, "pair", rfl, ?_, ?_, ?_, ?_, ?_, w13.upd nL2p nL2c, .inl ⟨rfl, off_set hm2 hj (by omega) hmod.2.2⟩⟩
    · exact (tups_put eL13).row ((k13.tups w12).row ((k12.tups wB).row ((Same.tups sM2).row hR11)))
    · rw [upd_same]
      congr 2
      exact (List.map_set).symm
    · exact stayRws (tups_put eL13) (awSet (F := RwAt H13) (y := ⟨1 + (1 + z2) % 3, ds2, o2⟩) ((k13.tups w12).row hrow2) _ (stayRws (k13.tups w12) (stayRws (k12.tups wB) (stayRws (Same.tups sM2) hrs2))))
    · intro x hx
      rcases List.mem_or_eq_of_mem_set hx with hx | rfl
      · exact ok2 x hx
      · exact hok2
    · rw [List.length_set]
      exact l42
  rintro σ12 H12 ⟨as3, rws3, d3, rfl, hR12, eL3, hrs3, ok3, l43, w12, hd3⟩
  have la3 := awLen hrs3
  obtain ⟨D, rs, eR, eD, hd⟩ := id hR12
  have lr := awLen hd
  refine ⟨.ref R, rfl, R, _, 1, .ref D, rfl, rfl, SqT.of eR, rfl, D, _, rfl, .inr (SqT.of eD), .ref L2, rfl, L2, rfl, ⟨_, .inl (.inl eL3)⟩, fun C hC => ?_⟩
  have sC : ∀ o, Same H12 (upd H12 C o) := fun o => same_new hC
  refine lc_list (K := K) (a := L2) (xs := as3.map V.ref) (fun i H4 => H4 = upd H12 C (.lst (((rws3.take i).map fun r => (r.ds.length : Int)).map V.int))) rfl (fun i H4 _ h4 => ?_) (fun i x H4 hx h4 => ?_) (fun H13 h13 => ?_)
  · subst h4
    exact .inl (.inl (sC _ _ _ eL3))
  · subst h4
    have hi' := (List.getElem?_eq_some_iff.mp hx).1
    rw [List.length_map] at hi'
    rw [List.getElem?_map] at hx
    obtain ⟨b, hb, rfl⟩ := Option.map_eq_some_iff.mp hx
    obtain ⟨xr, hxr, hw⟩ := awGet hrs3 hb
    obtain ⟨D2, rs2, eA, eD2, hd2⟩ := id hw
    refine ⟨rfl, .ref b, rfl, b, _, 1, .ref D2, rfl, rfl, SqT.of (sC _ _ _ eA), rfl, D2, _, rfl, .inr (SqT.of (sC _ _ _ eD2)), _, upd_same, ?_, ?_⟩
    · rw [List.length_map, List.length_map, List.length_take]
      exact small1000 (by omega)
    · rw [upd_upd, List.take_add_one, hxr]
      simp [awLen hd2]
  have eC : H13 C = some (.lst ((rws3.map fun r => (r.ds.length : Int)).map V.int)) := by
    rw [h13, upd_same, List.length_map, la3, List.take_length]
  have s13 : Same H12 H13 := by rw [h13]; exact sC _
  have w13 := w12.same s13
  have esum : (((rs.map V.ref).length : Nat) : Int) + (rws3.map fun r => (r.ds.length : Int)).sum = ((r0.ds.length + dsSum rws3 : Nat) : Int) := by
    rw [List.length_map, lr, sumI]
    omega
  have h32 : dsSum rws3 ≤ 32 := by
    have key : ∀ l : List Rw, (∀ x ∈ l, RwOk x) → dsSum l ≤ 8 * l.length := by
      intro l
      unfold dsSum
      induction l with
      | nil => intro _; simp
      | cons x l ih =>
        intro hl
        have := ih fun y hy => hl y (List.mem_cons_of_mem _ hy)
        have := (hl x List.mem_cons_self).len
        rw [List.map_cons, List.sum_cons, List.length_cons]
        omega
    have := key rws3 ok3
    omega
  obtain ⟨sz, hsz⟩ : ∃ sz : Int, sz = (((rs.map V.ref).length : Nat) : Int) + (rws3.map fun r => (r.ds.length : Int)).sum := ⟨_, rfl⟩
  refine ⟨C, rws3.map (fun r => (r.ds.length : Int)), rfl, .inl (.inl eC), (((rs.map V.ref).length : Nat) : Int), (rws3.map fun r => (r.ds.length : Int)).sum, rfl, rfl, ?_⟩
  refine ⟨fun σ H' => ∃ d4, σ = [some (.ref a), some (.ref p), some (.int (0 + (i : Int))), some (.int wy), some (.bl gb), some (.int (1 + z1)), some (.int (1 + z2)), some (.ref R), some (.ref L2), some (.str d4), some (.int ((((rs.map V.ref).length : Nat) : Int) + (rws3.map fun r => (r.ds.length : Int)).sum)), y11, none, none] ∧ Same H13 H' ∧ dueOk rws3 r0 d4, ?_, ?_⟩
  · refine ⟨.str d3, rfl, rfl, _, rfl, ?_⟩
    rcases hd3 with ⟨rfl, po⟩ | ⟨rfl, npo⟩
    · refine ite2 (fun e => ?_) (fun _ => ⟨_, rfl, Same.refl _, .inl ⟨po, rfl⟩⟩)
      exact absurd (strEq e) (by decide +kernel)
    · refine ite2 (fun _ => ?_) (fun e => absurd (decide_eq_true rfl) e)
      refine ⟨.int _, rfl, _, rfl, log_small (by rw [esum]; omega), (by show 2 ≤ sizeLine; decide), fun M3 hM3 => ?_⟩
      refine ⟨.int _, rfl, _, 8, rfl, rfl, .inr ⟨_, rfl, M3, _, _, _, rfl, rfl, .inl (.inl upd_same), two_ats _, _, rfl, same_new hM3, ?_⟩⟩
      by_cases h9 : 8 < r0.ds.length + dsSum rws3
      · refine .inr (.inl ⟨npo, h9, ?_⟩)
        rw [decide_eq_true (by rw [esum]; omega)]
        rfl
      · refine .inr (.inr ⟨npo, by omega, ?_⟩)
        rw [decide_eq_false (by rw [esum]; omega), esum]
        rfl
  rintro σ14 H14 ⟨d4, rfl, s14, hdue⟩
  have s24 := s13.trans s14
  have hR14 := (Same.tups s24).row hR12
  have eL14 := s24 _ _ eL3
  have hrs14 := stayRws (Same.tups s24) hrs3
  have w14 := w12.same s24
  have nice := nice_rws ok3 rok l43
  have hnd := PyData.hasDict_of_canLay _ (lay_pair ok3 rok)
  have dp : ∀ {H7 : Hp} {T : Addr}, Same H14 H7 → H7 T = some (.tup [.ref R, .ref L2]) → Dp K H7 (.ref T) (.tuple [rwD r0, .list (rws3.map rwD)]) := fun {H7 T} sm eT =>
    .tup (SqT.of eT) (.cons (dp_row ((Same.tups sm).row hR14)) (.cons (.lst (.inl (.inl (sm _ _ eL14))) (dp_rws (stayRws (Same.tups sm) hrs14))) .nil))
  refine ⟨.ref R, rfl, .ref L2, rfl, (by show 2 ≤ sizeLine; decide), fun T hT => ?_⟩
  have sT : Same H14 (upd H14 T (.tup [.ref R, .ref L2])) := same_new hT
  refine ⟨.ref T, _, rfl, .inr ⟨dp sT upd_same, hnd⟩, nice.sh, Nat.le_trans nice.dp (by decide), nice.fits (by decide), ?_⟩
  have rest : ∀ (H15 : Hp), Same (upd H14 T (.tup [.ref R, .ref L2])) H15 → ∀ wd : Str, wd = d4 → Same H14 H15 := fun H15 s15 _ _ => sT.trans s15
  refine ⟨.ref R, rfl, .ref L2, rfl, R, L2, as3, rws3, r0, rfl, (Same.tups sT).row hR14, sT _ _ eL14, stayRws (Same.tups sT) hrs14, rok, ok3, l43, fun po H15 s15 => ?_, fun npo h9 H15 s15 => ?_, fun npo h9 H15 s15 => ?_⟩
  · have ed : d4 = "pair" := by
      rcases hdue with ⟨_, h⟩ | ⟨h, _⟩ | ⟨h, _⟩
      · exact h
      · exact absurd po h
      · exact absurd po h
    subst ed
    refine ⟨.str _, rfl, rfl, _, rfl, iteNS rfl ?_⟩
    refine ⟨.ref R, rfl, .ref L2, rfl, (by show 2 ≤ sizeLine; decide), fun T2 hT2 => ?_⟩
    have s16 := (sT.trans s15).trans (same_new (o := .tup [.ref R, .ref L2]) hT2)
    refine ⟨.ref T2, _, rfl, .inr ⟨dp s16 upd_same, hnd⟩, nice.sh, Nat.le_trans nice.dp (by decide), nice.fits (by decide), ?_⟩
    refine ⟨_, rfl, rfl, _, rfl, iteNS rfl ?_⟩
    exact ⟨⟨_, _, _, _, _, _, _, _, _, _, rfl⟩, w14.same s16⟩
  · have ed : d4 = "many" := by
      rcases hdue with ⟨h, _⟩ | ⟨_, _, h⟩ | ⟨_, h, _⟩
      · exact absurd h npo
      · exact h
      · omega
    subst ed
    refine ⟨.str _, rfl, rfl, _, rfl, iteNS rfl ?_⟩
    refine ⟨.ref R, rfl, .ref L2, rfl, (by show 2 ≤ sizeLine; decide), fun T2 hT2 => ?_⟩
    have s16 := (sT.trans s15).trans (same_new (o := .tup [.ref R, .ref L2]) hT2)
    refine ⟨.ref T2, _, rfl, .inr ⟨dp s16 upd_same, hnd⟩, nice.sh, Nat.le_trans nice.dp (by decide), nice.fits (by decide), ?_⟩
    refine ⟨_, rfl, rfl, _, rfl, iteNS rfl ?_⟩
    exact ⟨⟨_, _, _, _, _, _, _, _, _, _, rfl⟩, w14.same s16⟩
  · have ed : Str.ofString (toString ((r0.ds.length + dsSum rws3 : Nat) : Int)) = d4 := by
      rcases hdue with ⟨h, _⟩ | ⟨_, h, _⟩ | ⟨_, _, h⟩
      · exact absurd h npo
      · omega
      · exact h.symm
    refine ⟨.str _, rfl, rfl, _, rfl, iteNS (congrArg V.str ed) ?_⟩
    refine ⟨.ref R, rfl, .ref L2, rfl, (by show 2 ≤ sizeLine; decide), fun T2 hT2 => ?_⟩
    have s16 := (sT.trans s15).trans (same_new (o := .tup [.ref R, .ref L2]) hT2)
    refine ⟨.ref T2, _, rfl, .inr ⟨dp s16 upd_same, hnd⟩, nice.sh, Nat.le_trans nice.dp (by decide), nice.fits (by decide), ?_⟩
    refine ⟨_, rfl, rfl, _, rfl, iteNS rfl ?_⟩
    exact ⟨⟨_, _, _, _, _, _, _, _, _, _, rfl⟩, w14.same s16⟩
/-! ### what the top has written -/
theorem all_mk {l : PySem.W.OpenLaw} {w : World} {K : PySem.W.Frag} {h : Heap} {mg : Str → Option Value} {fa : Addr} (X : K.In h) (G : h.Ns mainGlobals mg) (hfa : mg "law" = some (.ref fa))
    {f0 : Addr} {od0 an0 : Option Addr} {sl0 : Array (Option Value)} {oc0 kV0 dc0 pm0 cd0 ct0 : Value}
    {f1 : Addr} {od1 an1 : Option Addr} {sl1 : Array (Option Value)} {oc1 kV1 dc1 pm1 cd1 ct1 : Value}
    {f2 : Addr} {od2 an2 : Option Addr} {sl2 : Array (Option Value)} {oc2 kV2 dc2 pm2 cd2 ct2 : Value}
    {f3 : Addr} {od3 an3 : Option Addr} {sl3 : Array (Option Value)} {oc3 kV3 dc3 pm3 cd3 ct3 : Value}
    {f4 : Addr} {od4 an4 : Option Addr} {sl4 : Array (Option Value)} {oc4 kV4 dc4 pm4 cd4 ct4 : Value}
    {f5 : Addr} {od5 an5 : Option Addr} {sl5 : Array (Option Value)} {oc5 kV5 dc5 pm5 cd5 ct5 : Value}
    {f6 : Addr} {od6 an6 : Option Addr} {sl6 : Array (Option Value)} {oc6 kV6 dc6 pm6 cd6 ct6 : Value}
    {f7 : Addr} {od7 an7 : Option Addr} {sl7 : Array (Option Value)} {oc7 kV7 dc7 pm7 cd7 ct7 : Value}
    {f8 : Addr} {od8 an8 : Option Addr} {sl8 : Array (Option Value)} {oc8 kV8 dc8 pm8 cd8 ct8 : Value}
    {f9 : Addr} {od9 an9 : Option Addr} {sl9 : Array (Option Value)} {oc9 kV9 dc9 pm9 cd9 ct9 : Value}
    {f10 : Addr} {od10 an10 : Option Addr} {sl10 : Array (Option Value)} {oc10 kV10 dc10 pm10 cd10 ct10 : Value}
    {t_MOST_DEEDS : Tok}
    {cWideError : Addr}
    {cNoRow : Addr}
    {cNoPair : Addr}
    {cNoRule : Addr}
    {cNoName : Addr}
    {cNoText : Addr}
    {cTooMany : Addr}
    {cNothing : Addr}
    (a0 : PySem.W.nsIn K mainGlobals "renumbered" = some (some (.ref f0)))
    (l0 : K.lookup f0 = some ⟨oc0, od0, .func (PySem.W.fnOf "renumbered" "renumbered" (defArgs s_renumbered) (defBody s_renumbered) (defScope s_renumbered) .none kV0 dc0 pm0 an0 cd0 ct0), sl0⟩)
    (c0 : PySem.W.codeIn K cd0 "renumbered" = true) (k0 : PySem.W.keepIn K (.ref f0) = true)
    (a1 : PySem.W.nsIn K mainGlobals "check_parts" = some (some (.ref f1)))
    (l1 : K.lookup f1 = some ⟨oc1, od1, .func (PySem.W.fnOf "check_parts" "check_parts" (defArgs s_check_parts) (defBody s_check_parts) (defScope s_check_parts) .none kV1 dc1 pm1 an1 cd1 ct1), sl1⟩)
    (c1 : PySem.W.codeIn K cd1 "check_parts" = true) (k1 : PySem.W.keepIn K (.ref f1) = true)
    (a2 : PySem.W.nsIn K mainGlobals "put_behind" = some (some (.ref f2)))
    (l2 : K.lookup f2 = some ⟨oc2, od2, .func (PySem.W.fnOf "put_behind" "put_behind" (defArgs s_put_behind) (defBody s_put_behind) (defScope s_put_behind) .none kV2 dc2 pm2 an2 cd2 ct2), sl2⟩)
    (c2 : PySem.W.codeIn K cd2 "put_behind" = true) (k2 : PySem.W.keepIn K (.ref f2) = true)
    (a3 : PySem.W.nsIn K mainGlobals "put_together" = some (some (.ref f3)))
    (l3 : K.lookup f3 = some ⟨oc3, od3, .func (PySem.W.fnOf "put_together" "put_together" (defArgs s_put_together) (defBody s_put_together) (defScope s_put_together) .none kV3 dc3 pm3 an3 cd3 ct3), sl3⟩)
    (c3 : PySem.W.codeIn K cd3 "put_together" = true) (k3 : PySem.W.keepIn K (.ref f3) = true)
    (a4 : PySem.W.nsIn K mainGlobals "_law_well" = some (some (.ref f4)))
    (l4 : K.lookup f4 = some ⟨oc4, od4, .func (PySem.W.fnOf "_law_well" "_law_well" (defArgs s_law_well) (defBody s_law_well) (defScope s_law_well) .none kV4 dc4 pm4 an4 cd4 ct4), sl4⟩)
    (c4 : PySem.W.codeIn K cd4 "_law_well" = true) (k4 : PySem.W.keepIn K (.ref f4) = true)
    (a5 : PySem.W.nsIn K mainGlobals "_law_draw" = some (some (.ref f5)))
    (l5 : K.lookup f5 = some ⟨oc5, od5, .func (PySem.W.fnOf "_law_draw" "_law_draw" (defArgs s_law_draw) (defBody s_law_draw) (defScope s_law_draw) .none kV5 dc5 pm5 an5 cd5 ct5), sl5⟩)
    (c5 : PySem.W.codeIn K cd5 "_law_draw" = true) (k5 : PySem.W.keepIn K (.ref f5) = true)
    (a6 : PySem.W.nsIn K mainGlobals "_law_first_words" = some (some (.ref f6)))
    (l6 : K.lookup f6 = some ⟨oc6, od6, .func (PySem.W.fnOf "_law_first_words" "_law_first_words" (defArgs s_law_first_words) (defBody s_law_first_words) (defScope s_law_first_words) .none kV6 dc6 pm6 an6 cd6 ct6), sl6⟩)
    (c6 : PySem.W.codeIn K cd6 "_law_first_words" = true) (k6 : PySem.W.keepIn K (.ref f6) = true)
    (a7 : PySem.W.nsIn K mainGlobals "_law_deed" = some (some (.ref f7)))
    (l7 : K.lookup f7 = some ⟨oc7, od7, .func (PySem.W.fnOf "_law_deed" "_law_deed" (defArgs s_law_deed) (defBody s_law_deed) (defScope s_law_deed) .none kV7 dc7 pm7 an7 cd7 ct7), sl7⟩)
    (c7 : PySem.W.codeIn K cd7 "_law_deed" = true) (k7 : PySem.W.keepIn K (.ref f7) = true)
    (a8 : PySem.W.nsIn K mainGlobals "_law_row" = some (some (.ref f8)))
    (l8 : K.lookup f8 = some ⟨oc8, od8, .func (PySem.W.fnOf "_law_row" "_law_row" (defArgs s_law_row) (defBody s_law_row) (defScope s_law_row) .none kV8 dc8 pm8 an8 cd8 ct8), sl8⟩)
    (c8 : PySem.W.codeIn K cd8 "_law_row" = true) (k8 : PySem.W.keepIn K (.ref f8) = true)
    (a9 : PySem.W.nsIn K mainGlobals "_law_kind" = some (some (.ref f9)))
    (l9 : K.lookup f9 = some ⟨oc9, od9, .func (PySem.W.fnOf "_law_kind" "_law_kind" (defArgs s_law_kind) (defBody s_law_kind) (defScope s_law_kind) .none kV9 dc9 pm9 an9 cd9 ct9), sl9⟩)
    (c9 : PySem.W.codeIn K cd9 "_law_kind" = true) (k9 : PySem.W.keepIn K (.ref f9) = true)
    (a10 : PySem.W.nsIn K mainGlobals "law" = some (some (.ref f10)))
    (l10 : K.lookup f10 = some ⟨oc10, od10, .func (PySem.W.fnOf "law" "law" (defArgs s_law) (defBody s_law) (defScope s_law) .none kV10 dc10 pm10 an10 cd10 ct10), sl10⟩)
    (c10 : PySem.W.codeIn K cd10 "law" = true) (k10 : PySem.W.keepIn K (.ref f10) = true)
    (v_MOST_DEEDS : PySem.W.nsIn K mainGlobals "MOST_DEEDS" = some (some (.int 8 t_MOST_DEEDS)))
    (a_WideError : PySem.W.nsIn K mainGlobals "WideError" = some (some (.ref cWideError)))
    (x_WideError : PySem.W.excIn K cWideError [.type "ValueError", .type "Exception", .type "BaseException", .type "object"] "ValueError.__new__" = true)
    (k_WideError : PySem.W.keepIn K (.ref cWideError) = true)
    (e1_WideError : PySem.W.findIn K (.ref cWideError) "__getattribute__" = some (some (.builtin "BaseException.__getattribute__")))
    (e2_WideError : PySem.W.findIn K (.ref cWideError) "__getattr__" = some none)
    (e3_WideError : PySem.W.subIn K (.ref cWideError) (.type "BaseException") = some true)
    (e4_WideError : PySem.W.hasDictIn K cWideError = true)
    (e5_WideError : PySem.W.findIn K (.ref cWideError) "__class__" = some (some (.builtin "object.__class__")))
    (e6_WideError : PySem.W.specialIn K (.builtin "object.__class__") "__get__" = some (some (.builtin "getset_descriptor.__get__")))
    (e7_WideError : PySem.W.takesIn K (.builtin "object.__class__") = some true)
    (e8_WideError : PySem.W.mroIn K cWideError (.type "object") = some true)
    (e9_WideError : PySem.W.isClsIn K cWideError = true)
    (e10_WideError : PySem.W.typeIn K (.ref cWideError) = some (.type "type"))
    (e11_WideError : PySem.W.subIn K (.ref cWideError) (.type "ValueError") = some true)
    (a_NoRow : PySem.W.nsIn K mainGlobals "NoRow" = some (some (.ref cNoRow)))
    (x_NoRow : PySem.W.excIn K cNoRow [.type "ValueError", .type "Exception", .type "BaseException", .type "object"] "ValueError.__new__" = true)
    (k_NoRow : PySem.W.keepIn K (.ref cNoRow) = true)
    (e1_NoRow : PySem.W.findIn K (.ref cNoRow) "__getattribute__" = some (some (.builtin "BaseException.__getattribute__")))
    (e2_NoRow : PySem.W.findIn K (.ref cNoRow) "__getattr__" = some none)
    (e3_NoRow : PySem.W.subIn K (.ref cNoRow) (.type "BaseException") = some true)
    (e4_NoRow : PySem.W.hasDictIn K cNoRow = true)
    (e5_NoRow : PySem.W.findIn K (.ref cNoRow) "__class__" = some (some (.builtin "object.__class__")))
    (e6_NoRow : PySem.W.specialIn K (.builtin "object.__class__") "__get__" = some (some (.builtin "getset_descriptor.__get__")))
    (e7_NoRow : PySem.W.takesIn K (.builtin "object.__class__") = some true)
    (e8_NoRow : PySem.W.mroIn K cNoRow (.type "object") = some true)
    (e9_NoRow : PySem.W.isClsIn K cNoRow = true)
    (e10_NoRow : PySem.W.typeIn K (.ref cNoRow) = some (.type "type"))
    (e11_NoRow : PySem.W.subIn K (.ref cNoRow) (.type "ValueError") = some true)
    (a_NoPair : PySem.W.nsIn K mainGlobals "NoPair" = some (some (.ref cNoPair)))
    (x_NoPair : PySem.W.excIn K cNoPair [.type "ValueError", .type "Exception", .type "BaseException", .type "object"] "ValueError.__new__" = true)
    (k_NoPair : PySem.W.keepIn K (.ref cNoPair) = true)
    (e1_NoPair : PySem.W.findIn K (.ref cNoPair) "__getattribute__" = some (some (.builtin "BaseException.__getattribute__")))
    (e2_NoPair : PySem.W.findIn K (.ref cNoPair) "__getattr__" = some none)
    (e3_NoPair : PySem.W.subIn K (.ref cNoPair) (.type "BaseException") = some true)
    (e4_NoPair : PySem.W.hasDictIn K cNoPair = true)
    (e5_NoPair : PySem.W.findIn K (.ref cNoPair) "__class__" = some (some (.builtin "object.__class__")))
    (e6_NoPair : PySem.W.specialIn K (.builtin "object.__class__") "__get__" = some (some (.builtin "getset_descriptor.__get__")))
    (e7_NoPair : PySem.W.takesIn K (.builtin "object.__class__") = some true)
    (e8_NoPair : PySem.W.mroIn K cNoPair (.type "object") = some true)
    (e9_NoPair : PySem.W.isClsIn K cNoPair = true)
    (e10_NoPair : PySem.W.typeIn K (.ref cNoPair) = some (.type "type"))
    (e11_NoPair : PySem.W.subIn K (.ref cNoPair) (.type "ValueError") = some true)
    (a_NoRule : PySem.W.nsIn K mainGlobals "NoRule" = some (some (.ref cNoRule)))
    (x_NoRule : PySem.W.excIn K cNoRule [.type "ValueError", .type "Exception", .type "BaseException", .type "object"] "ValueError.__new__" = true)
    (k_NoRule : PySem.W.keepIn K (.ref cNoRule) = true)
    (e1_NoRule : PySem.W.findIn K (.ref cNoRule) "__getattribute__" = some (some (.builtin "BaseException.__getattribute__")))
    (e2_NoRule : PySem.W.findIn K (.ref cNoRule) "__getattr__" = some none)
    (e3_NoRule : PySem.W.subIn K (.ref cNoRule) (.type "BaseException") = some true)
    (e4_NoRule : PySem.W.hasDictIn K cNoRule = true)
    (e5_NoRule : PySem.W.findIn K (.ref cNoRule) "__class__" = some (some (.builtin "object.__class__")))
    (e6_NoRule : PySem.W.specialIn K (.builtin "object.__class__") "__get__" = some (some (.builtin "getset_descriptor.__get__")))
    (e7_NoRule : PySem.W.takesIn K (.builtin "object.__class__") = some true)
    (e8_NoRule : PySem.W.mroIn K cNoRule (.type "object") = some true)
    (e9_NoRule : PySem.W.isClsIn K cNoRule = true)
    (e10_NoRule : PySem.W.typeIn K (.ref cNoRule) = some (.type "type"))
    (e11_NoRule : PySem.W.subIn K (.ref cNoRule) (.type "ValueError") = some true)
    (a_NoName : PySem.W.nsIn K mainGlobals "NoName" = some (some (.ref cNoName)))
    (x_NoName : PySem.W.excIn K cNoName [.type "ValueError", .type "Exception", .type "BaseException", .type "object"] "ValueError.__new__" = true)
    (k_NoName : PySem.W.keepIn K (.ref cNoName) = true)
    (e1_NoName : PySem.W.findIn K (.ref cNoName) "__getattribute__" = some (some (.builtin "BaseException.__getattribute__")))
    (e2_NoName : PySem.W.findIn K (.ref cNoName) "__getattr__" = some none)
    (e3_NoName : PySem.W.subIn K (.ref cNoName) (.type "BaseException") = some true)
    (e4_NoName : PySem.W.hasDictIn K cNoName = true)
    (e5_NoName : PySem.W.findIn K (.ref cNoName) "__class__" = some (some (.builtin "object.__class__")))
    (e6_NoName : PySem.W.specialIn K (.builtin "object.__class__") "__get__" = some (some (.builtin "getset_descriptor.__get__")))
    (e7_NoName : PySem.W.takesIn K (.builtin "object.__class__") = some true)
    (e8_NoName : PySem.W.mroIn K cNoName (.type "object") = some true)
    (e9_NoName : PySem.W.isClsIn K cNoName = true)
    (e10_NoName : PySem.W.typeIn K (.ref cNoName) = some (.type "type"))
    (e11_NoName : PySem.W.subIn K (.ref cNoName) (.type "ValueError") = some true)
    (a_NoText : PySem.W.nsIn K mainGlobals "NoText" = some (some (.ref cNoText)))
    (x_NoText : PySem.W.excIn K cNoText [.type "ValueError", .type "Exception", .type "BaseException", .type "object"] "ValueError.__new__" = true)
    (k_NoText : PySem.W.keepIn K (.ref cNoText) = true)
    (e1_NoText : PySem.W.findIn K (.ref cNoText) "__getattribute__" = some (some (.builtin "BaseException.__getattribute__")))
    (e2_NoText : PySem.W.findIn K (.ref cNoText) "__getattr__" = some none)
    (e3_NoText : PySem.W.subIn K (.ref cNoText) (.type "BaseException") = some true)
    (e4_NoText : PySem.W.hasDictIn K cNoText = true)
    (e5_NoText : PySem.W.findIn K (.ref cNoText) "__class__" = some (some (.builtin "object.__class__")))
    (e6_NoText : PySem.W.specialIn K (.builtin "object.__class__") "__get__" = some (some (.builtin "getset_descriptor.__get__")))
    (e7_NoText : PySem.W.takesIn K (.builtin "object.__class__") = some true)
    (e8_NoText : PySem.W.mroIn K cNoText (.type "object") = some true)
    (e9_NoText : PySem.W.isClsIn K cNoText = true)
    (e10_NoText : PySem.W.typeIn K (.ref cNoText) = some (.type "type"))
    (e11_NoText : PySem.W.subIn K (.ref cNoText) (.type "ValueError") = some true)
    (a_TooMany : PySem.W.nsIn K mainGlobals "TooMany" = some (some (.ref cTooMany)))
    (x_TooMany : PySem.W.excIn K cTooMany [.type "ValueError", .type "Exception", .type "BaseException", .type "object"] "ValueError.__new__" = true)
    (k_TooMany : PySem.W.keepIn K (.ref cTooMany) = true)
    (e1_TooMany : PySem.W.findIn K (.ref cTooMany) "__getattribute__" = some (some (.builtin "BaseException.__getattribute__")))
    (e2_TooMany : PySem.W.findIn K (.ref cTooMany) "__getattr__" = some none)
    (e3_TooMany : PySem.W.subIn K (.ref cTooMany) (.type "BaseException") = some true)
    (e4_TooMany : PySem.W.hasDictIn K cTooMany = true)
    (e5_TooMany : PySem.W.findIn K (.ref cTooMany) "__class__" = some (some (.builtin "object.__class__")))
    (e6_TooMany : PySem.W.specialIn K (.builtin "object.__class__") "__get__" = some (some (.builtin "getset_descriptor.__get__")))
    (e7_TooMany : PySem.W.takesIn K (.builtin "object.__class__") = some true)
    (e8_TooMany : PySem.W.mroIn K cTooMany (.type "object") = some true)
    (e9_TooMany : PySem.W.isClsIn K cTooMany = true)
    (e10_TooMany : PySem.W.typeIn K (.ref cTooMany) = some (.type "type"))
    (e11_TooMany : PySem.W.subIn K (.ref cTooMany) (.type "ValueError") = some true)
    (a_Nothing : PySem.W.nsIn K mainGlobals "Nothing" = some (some (.ref cNothing)))
    (x_Nothing : PySem.W.excIn K cNothing [.type "ValueError", .type "Exception", .type "BaseException", .type "object"] "ValueError.__new__" = true)
    (k_Nothing : PySem.W.keepIn K (.ref cNothing) = true)
    (e1_Nothing : PySem.W.findIn K (.ref cNothing) "__getattribute__" = some (some (.builtin "BaseException.__getattribute__")))
    (e2_Nothing : PySem.W.findIn K (.ref cNothing) "__getattr__" = some none)
    (e3_Nothing : PySem.W.subIn K (.ref cNothing) (.type "BaseException") = some true)
    (e4_Nothing : PySem.W.hasDictIn K cNothing = true)
    (e5_Nothing : PySem.W.findIn K (.ref cNothing) "__class__" = some (some (.builtin "object.__class__")))
    (e6_Nothing : PySem.W.specialIn K (.builtin "object.__class__") "__get__" = some (some (.builtin "getset_descriptor.__get__")))
    (e7_Nothing : PySem.W.takesIn K (.builtin "object.__class__") = some true)
    (e8_Nothing : PySem.W.mroIn K cNothing (.type "object") = some true)
    (e9_Nothing : PySem.W.isClsIn K cNothing = true)
    (e10_Nothing : PySem.W.typeIn K (.ref cNothing) = some (.type "type"))
    (e11_Nothing : PySem.W.subIn K (.ref cNothing) (.type "ValueError") = some true)
    (s_WideError_WideError : PySem.W.subIn K (.ref cWideError) (.ref cWideError) = some true)
    (s_WideError_NoRow : PySem.W.subIn K (.ref cWideError) (.ref cNoRow) = some false)
    (s_WideError_NoPair : PySem.W.subIn K (.ref cWideError) (.ref cNoPair) = some false)
    (s_WideError_NoRule : PySem.W.subIn K (.ref cWideError) (.ref cNoRule) = some false)
    (s_WideError_NoName : PySem.W.subIn K (.ref cWideError) (.ref cNoName) = some false)
    (s_WideError_NoText : PySem.W.subIn K (.ref cWideError) (.ref cNoText) = some false)
    (s_WideError_TooMany : PySem.W.subIn K (.ref cWideError) (.ref cTooMany) = some false)
    (s_WideError_Nothing : PySem.W.subIn K (.ref cWideError) (.ref cNothing) = some false)
    (s_NoRow_WideError : PySem.W.subIn K (.ref cNoRow) (.ref cWideError) = some true)
    (s_NoRow_NoRow : PySem.W.subIn K (.ref cNoRow) (.ref cNoRow) = some true)
    (s_NoRow_NoPair : PySem.W.subIn K (.ref cNoRow) (.ref cNoPair) = some false)
    (s_NoRow_NoRule : PySem.W.subIn K (.ref cNoRow) (.ref cNoRule) = some false)
    (s_NoRow_NoName : PySem.W.subIn K (.ref cNoRow) (.ref cNoName) = some false)
    (s_NoRow_NoText : PySem.W.subIn K (.ref cNoRow) (.ref cNoText) = some false)
    (s_NoRow_TooMany : PySem.W.subIn K (.ref cNoRow) (.ref cTooMany) = some false)
    (s_NoRow_Nothing : PySem.W.subIn K (.ref cNoRow) (.ref cNothing) = some false)
    (s_NoPair_WideError : PySem.W.subIn K (.ref cNoPair) (.ref cWideError) = some true)
    (s_NoPair_NoRow : PySem.W.subIn K (.ref cNoPair) (.ref cNoRow) = some false)
    (s_NoPair_NoPair : PySem.W.subIn K (.ref cNoPair) (.ref cNoPair) = some true)
    (s_NoPair_NoRule : PySem.W.subIn K (.ref cNoPair) (.ref cNoRule) = some false)
    (s_NoPair_NoName : PySem.W.subIn K (.ref cNoPair) (.ref cNoName) = some false)
    (s_NoPair_NoText : PySem.W.subIn K (.ref cNoPair) (.ref cNoText) = some false)
    (s_NoPair_TooMany : PySem.W.subIn K (.ref cNoPair) (.ref cTooMany) = some false)
    (s_NoPair_Nothing : PySem.W.subIn K (.ref cNoPair) (.ref cNothing) = some false)
    (s_NoRule_WideError : PySem.W.subIn K (.ref cNoRule) (.ref cWideError) = some true)
    (s_NoRule_NoRow : PySem.W.subIn K (.ref cNoRule) (.ref cNoRow) = some false)
    (s_NoRule_NoPair : PySem.W.subIn K (.ref cNoRule) (.ref cNoPair) = some false)
    (s_NoRule_NoRule : PySem.W.subIn K (.ref cNoRule) (.ref cNoRule) = some true)
    (s_NoRule_NoName : PySem.W.subIn K (.ref cNoRule) (.ref cNoName) = some false)
    (s_NoRule_NoText : PySem.W.subIn K (.ref cNoRule) (.ref cNoText) = some false)
    (s_NoRule_TooMany : PySem.W.subIn K (.ref cNoRule) (.ref cTooMany) = some false)
    (s_NoRule_Nothing : PySem.W.subIn K (.ref cNoRule) (.ref cNothing) = some false)
    (s_NoName_WideError : PySem.W.subIn K (.ref cNoName) (.ref cWideError) = some true)
    (s_NoName_NoRow : PySem.W.subIn K (.ref cNoName) (.ref cNoRow) = some false)
    (s_NoName_NoPair : PySem.W.subIn K (.ref cNoName) (.ref cNoPair) = some false)
    (s_NoName_NoRule : PySem.W.subIn K (.ref cNoName) (.ref cNoRule) = some false)
    (s_NoName_NoName : PySem.W.subIn K (.ref cNoName) (.ref cNoName) = some true)
    (s_NoName_NoText : PySem.W.subIn K (.ref cNoName) (.ref cNoText) = some false)
    (s_NoName_TooMany : PySem.W.subIn K (.ref cNoName) (.ref cTooMany) = some false)
    (s_NoName_Nothing : PySem.W.subIn K (.ref cNoName) (.ref cNothing) = some false)
    (s_NoText_WideError : PySem.W.subIn K (.ref cNoText) (.ref cWideError) = some true)
    (s_NoText_NoRow : PySem.W.subIn K (.ref cNoText) (.ref cNoRow) = some false)
    (s_NoText_NoPair : PySem.W.subIn K (.ref cNoText) (.ref cNoPair) = some false)
    (s_NoText_NoRule : PySem.W.subIn K (.ref cNoText) (.ref cNoRule) = some false)
    (s_NoText_NoName : PySem.W.subIn K (.ref cNoText) (.ref cNoName) = some false)
    (s_NoText_NoText : PySem.W.subIn K (.ref cNoText) (.ref cNoText) = some true)
    (s_NoText_TooMany : PySem.W.subIn K (.ref cNoText) (.ref cTooMany) = some false)
    (s_NoText_Nothing : PySem.W.subIn K (.ref cNoText) (.ref cNothing) = some false)
    (s_TooMany_WideError : PySem.W.subIn K (.ref cTooMany) (.ref cWideError) = some true)
    (s_TooMany_NoRow : PySem.W.subIn K (.ref cTooMany) (.ref cNoRow) = some false)
    (s_TooMany_NoPair : PySem.W.subIn K (.ref cTooMany) (.ref cNoPair) = some false)
    (s_TooMany_NoRule : PySem.W.subIn K (.ref cTooMany) (.ref cNoRule) = some false)
    (s_TooMany_NoName : PySem.W.subIn K (.ref cTooMany) (.ref cNoName) = some false)
    (s_TooMany_NoText : PySem.W.subIn K (.ref cTooMany) (.ref cNoText) = some false)
    (s_TooMany_TooMany : PySem.W.subIn K (.ref cTooMany) (.ref cTooMany) = some true)
    (s_TooMany_Nothing : PySem.W.subIn K (.ref cTooMany) (.ref cNothing) = some false)
    (s_Nothing_WideError : PySem.W.subIn K (.ref cNothing) (.ref cWideError) = some true)
    (s_Nothing_NoRow : PySem.W.subIn K (.ref cNothing) (.ref cNoRow) = some false)
    (s_Nothing_NoPair : PySem.W.subIn K (.ref cNothing) (.ref cNoPair) = some false)
    (s_Nothing_NoRule : PySem.W.subIn K (.ref cNothing) (.ref cNoRule) = some false)
    (s_Nothing_NoName : PySem.W.subIn K (.ref cNothing) (.ref cNoName) = some false)
    (s_Nothing_NoText : PySem.W.subIn K (.ref cNothing) (.ref cNoText) = some false)
    (s_Nothing_TooMany : PySem.W.subIn K (.ref cNothing) (.ref cTooMany) = some false)
    (s_Nothing_Nothing : PySem.W.subIn K (.ref cNothing) (.ref cNothing) = some true)
    (z_ValueError : PySem.W.nsIn K mainGlobals "ValueError" = some none)
    (z_abs : PySem.W.nsIn K mainGlobals "abs" = some none)
    (z_int : PySem.W.nsIn K mainGlobals "int" = some none)
    (z_isinstance : PySem.W.nsIn K mainGlobals "isinstance" = some none)
    (z_len : PySem.W.nsIn K mainGlobals "len" = some none)
    (z_list : PySem.W.nsIn K mainGlobals "list" = some none)
    (z_range : PySem.W.nsIn K mainGlobals "range" = some none)
    (z_repr : PySem.W.nsIn K mainGlobals "repr" = some none)
    (z_str : PySem.W.nsIn K mainGlobals "str" = some none)
    (z_sum : PySem.W.nsIn K mainGlobals "sum" = some none)
    (z_tuple : PySem.W.nsIn K mainGlobals "tuple" = some none)
    : ∀ (s : Shared) (a : Addr) (ns : List Int) (base : Heap) (H : Hp), ns.length ≤ 63 → (∀ z ∈ ns, Builtin.Int.intBits z ≤ 1048576) → Env0 l.prog w K mg base callerA [] s H → SqL K H a (ns.map V.int) →
      codeAny (model l.prog w) callerA (.call (.ref fa) ⟨[.ref a], []⟩) (CR CX0 [] l.prog w H s (fun v _ => v = .bl true) E0) s := by
  have F_renumbered := fun_mk (st := s_renumbered) l0 c0 k0
  have b_renumbered := F_renumbered.binds (ps := ["deed", "numbers"]) fun _ _ _ _ _ _ us hl => match us, hl with | [_, _], _ => rfl
  have g_renumbered := PySem.W.mg_of X G a0
  have F_check_parts := fun_mk (st := s_check_parts) l1 c1 k1
  have b_check_parts := F_check_parts.binds (ps := ["row", "rows"]) fun _ _ _ _ _ _ us hl => match us, hl with | [_, _], _ => rfl
  have g_check_parts := PySem.W.mg_of X G a1
  have F_put_behind := fun_mk (st := s_put_behind) l2 c2 k2
  have b_put_behind := F_put_behind.binds (ps := ["many", "deeds", "row", "inputs"]) fun _ _ _ _ _ _ us hl => match us, hl with | [_, _, _, _], _ => rfl
  have g_put_behind := PySem.W.mg_of X G a2
  have F_put_together := fun_mk (st := s_put_together) l3 c3 k3
  have b_put_together := F_put_together.binds (ps := ["row", "rows"]) fun _ _ _ _ _ _ us hl => match us, hl with | [_, _], _ => rfl
  have g_put_together := PySem.W.mg_of X G a3
  have F_law_well := fun_mk (st := s_law_well) l4 c4 k4
  have b_law_well := F_law_well.binds (ps := ["script"]) fun _ _ _ _ _ _ us hl => match us, hl with | [_], _ => rfl
  have g_law_well := PySem.W.mg_of X G a4
  have F_law_draw := fun_mk (st := s_law_draw) l5 c5 k5
  have b_law_draw := F_law_draw.binds (ps := ["well", "many"]) fun _ _ _ _ _ _ us hl => match us, hl with | [_, _], _ => rfl
  have g_law_draw := PySem.W.mg_of X G a5
  have F_law_first_words := fun_mk (st := s_law_first_words) l6 c6 k6
  have b_law_first_words := F_law_first_words.binds (ps := []) fun _ _ _ _ _ _ us hl => match us, hl with | [], _ => rfl
  have g_law_first_words := PySem.W.mg_of X G a6
  have F_law_deed := fun_mk (st := s_law_deed) l7 c7 k7
  have b_law_deed := F_law_deed.binds (ps := ["well", "ahead"]) fun _ _ _ _ _ _ us hl => match us, hl with | [_, _], _ => rfl
  have g_law_deed := PySem.W.mg_of X G a7
  have F_law_row := fun_mk (st := s_law_row) l8 c8 k8
  have b_law_row := F_law_row.binds (ps := ["well", "many", "most"]) fun _ _ _ _ _ _ us hl => match us, hl with | [_, _, _], _ => rfl
  have g_law_row := PySem.W.mg_of X G a8
  have F_law_kind := fun_mk (st := s_law_kind) l9 c9 k9
  have b_law_kind := F_law_kind.binds (ps := ["row", "rows"]) fun _ _ _ _ _ _ us hl => match us, hl with | [_, _], _ => rfl
  have g_law_kind := PySem.W.mg_of X G a9
  have F_law := fun_mk (st := s_law) l10 c10 k10
  have b_law := F_law.binds (ps := ["script"]) fun _ _ _ _ _ _ us hl => match us, hl with | [_], _ => rfl
  obtain rfl : fa = f10 := by
    have e := hfa.symm.trans (PySem.W.mg_of X G a10)
    cases e
    rfl
  have g_MOST_DEEDS := PySem.W.mg_of X G v_MOST_DEEDS
  have g_WideError := PySem.W.mg_of X G a_WideError
  have X_WideError : ExcC K cWideError := ⟨e1_WideError, e2_WideError, e3_WideError, e4_WideError, e5_WideError, e6_WideError, e7_WideError, e8_WideError⟩
  have g_NoRow := PySem.W.mg_of X G a_NoRow
  have X_NoRow : ExcC K cNoRow := ⟨e1_NoRow, e2_NoRow, e3_NoRow, e4_NoRow, e5_NoRow, e6_NoRow, e7_NoRow, e8_NoRow⟩
  have g_NoPair := PySem.W.mg_of X G a_NoPair
  have X_NoPair : ExcC K cNoPair := ⟨e1_NoPair, e2_NoPair, e3_NoPair, e4_NoPair, e5_NoPair, e6_NoPair, e7_NoPair, e8_NoPair⟩
  have g_NoRule := PySem.W.mg_of X G a_NoRule
  have X_NoRule : ExcC K cNoRule := ⟨e1_NoRule, e2_NoRule, e3_NoRule, e4_NoRule, e5_NoRule, e6_NoRule, e7_NoRule, e8_NoRule⟩
  have g_NoName := PySem.W.mg_of X G a_NoName
  have X_NoName : ExcC K cNoName := ⟨e1_NoName, e2_NoName, e3_NoName, e4_NoName, e5_NoName, e6_NoName, e7_NoName, e8_NoName⟩
  have g_NoText := PySem.W.mg_of X G a_NoText
  have X_NoText : ExcC K cNoText := ⟨e1_NoText, e2_NoText, e3_NoText, e4_NoText, e5_NoText, e6_NoText, e7_NoText, e8_NoText⟩
  have g_TooMany := PySem.W.mg_of X G a_TooMany
  have X_TooMany : ExcC K cTooMany := ⟨e1_TooMany, e2_TooMany, e3_TooMany, e4_TooMany, e5_TooMany, e6_TooMany, e7_TooMany, e8_TooMany⟩
  have g_Nothing := PySem.W.mg_of X G a_Nothing
  have X_Nothing : ExcC K cNothing := ⟨e1_Nothing, e2_Nothing, e3_Nothing, e4_Nothing, e5_Nothing, e6_Nothing, e7_Nothing, e8_Nothing⟩
  have t_WideError_WideError := kit_ref e9_WideError e10_WideError s_WideError_WideError s_WideError_WideError
  have t_WideError_NoRow := kit_ref e9_NoRow e10_NoRow s_WideError_NoRow s_NoRow_NoRow
  have t_WideError_NoPair := kit_ref e9_NoPair e10_NoPair s_WideError_NoPair s_NoPair_NoPair
  have t_WideError_NoRule := kit_ref e9_NoRule e10_NoRule s_WideError_NoRule s_NoRule_NoRule
  have t_WideError_NoName := kit_ref e9_NoName e10_NoName s_WideError_NoName s_NoName_NoName
  have t_WideError_NoText := kit_ref e9_NoText e10_NoText s_WideError_NoText s_NoText_NoText
  have t_WideError_TooMany := kit_ref e9_TooMany e10_TooMany s_WideError_TooMany s_TooMany_TooMany
  have t_WideError_Nothing := kit_ref e9_Nothing e10_Nothing s_WideError_Nothing s_Nothing_Nothing
  have v_WideError := kit_ve e11_WideError
  have t_NoRow_WideError := kit_ref e9_WideError e10_WideError s_NoRow_WideError s_WideError_WideError
  have t_NoRow_NoRow := kit_ref e9_NoRow e10_NoRow s_NoRow_NoRow s_NoRow_NoRow
  have t_NoRow_NoPair := kit_ref e9_NoPair e10_NoPair s_NoRow_NoPair s_NoPair_NoPair
  have t_NoRow_NoRule := kit_ref e9_NoRule e10_NoRule s_NoRow_NoRule s_NoRule_NoRule
  have t_NoRow_NoName := kit_ref e9_NoName e10_NoName s_NoRow_NoName s_NoName_NoName
  have t_NoRow_NoText := kit_ref e9_NoText e10_NoText s_NoRow_NoText s_NoText_NoText
  have t_NoRow_TooMany := kit_ref e9_TooMany e10_TooMany s_NoRow_TooMany s_TooMany_TooMany
  have t_NoRow_Nothing := kit_ref e9_Nothing e10_Nothing s_NoRow_Nothing s_Nothing_Nothing
  have v_NoRow := kit_ve e11_NoRow
  have t_NoPair_WideError := kit_ref e9_WideError e10_WideError s_NoPair_WideError s_WideError_WideError
  have t_NoPair_NoRow := kit_ref e9_NoRow e10_NoRow s_NoPair_NoRow s_NoRow_NoRow
  have t_NoPair_NoPair := kit_ref e9_NoPair e10_NoPair s_NoPair_NoPair s_NoPair_NoPair
  have t_NoPair_NoRule := kit_ref e9_NoRule e10_NoRule s_NoPair_NoRule s_NoRule_NoRule
  have t_NoPair_NoName := kit_ref e9_NoName e10_NoName s_NoPair_NoName s_NoName_NoName
  have t_NoPair_NoText := kit_ref e9_NoText e10_NoText s_NoPair_NoText s_NoText_NoText
  have t_NoPair_TooMany := kit_ref e9_TooMany e10_TooMany s_NoPair_TooMany s_TooMany_TooMany
  have t_NoPair_Nothing := kit_ref e9_Nothing e10_Nothing s_NoPair_Nothing s_Nothing_Nothing
  have v_NoPair := kit_ve e11_NoPair
  have t_NoRule_WideError := kit_ref e9_WideError e10_WideError s_NoRule_WideError s_WideError_WideError
  have t_NoRule_NoRow := kit_ref e9_NoRow e10_NoRow s_NoRule_NoRow s_NoRow_NoRow
  have t_NoRule_NoPair := kit_ref e9_NoPair e10_NoPair s_NoRule_NoPair s_NoPair_NoPair
  have t_NoRule_NoRule := kit_ref e9_NoRule e10_NoRule s_NoRule_NoRule s_NoRule_NoRule
  have t_NoRule_NoName := kit_ref e9_NoName e10_NoName s_NoRule_NoName s_NoName_NoName
  have t_NoRule_NoText := kit_ref e9_NoText e10_NoText s_NoRule_NoText s_NoText_NoText
  have t_NoRule_TooMany := kit_ref e9_TooMany e10_TooMany s_NoRule_TooMany s_TooMany_TooMany
  have t_NoRule_Nothing := kit_ref e9_Nothing e10_Nothing s_NoRule_Nothing s_Nothing_Nothing
  have v_NoRule := kit_ve e11_NoRule
  have t_NoName_WideError := kit_ref e9_WideError e10_WideError s_NoName_WideError s_WideError_WideError
  have t_NoName_NoRow := kit_ref e9_NoRow e10_NoRow s_NoName_NoRow s_NoRow_NoRow
  have t_NoName_NoPair := kit_ref e9_NoPair e10_NoPair s_NoName_NoPair s_NoPair_NoPair
  have t_NoName_NoRule := kit_ref e9_NoRule e10_NoRule s_NoName_NoRule s_NoRule_NoRule
  have t_NoName_NoName := kit_ref e9_NoName e10_NoName s_NoName_NoName s_NoName_NoName
  have t_NoName_NoText := kit_ref e9_NoText e10_NoText s_NoName_NoText s_NoText_NoText
  have t_NoName_TooMany := kit_ref e9_TooMany e10_TooMany s_NoName_TooMany s_TooMany_TooMany
  have t_NoName_Nothing := kit_ref e9_Nothing e10_Nothing s_NoName_Nothing s_Nothing_Nothing
  have v_NoName := kit_ve e11_NoName
  have t_NoText_WideError := kit_ref e9_WideError e10_WideError s_NoText_WideError s_WideError_WideError
  have t_NoText_NoRow := kit_ref e9_NoRow e10_NoRow s_NoText_NoRow s_NoRow_NoRow
  have t_NoText_NoPair := kit_ref e9_NoPair e10_NoPair s_NoText_NoPair s_NoPair_NoPair
  have t_NoText_NoRule := kit_ref e9_NoRule e10_NoRule s_NoText_NoRule s_NoRule_NoRule
  have t_NoText_NoName := kit_ref e9_NoName e10_NoName s_NoText_NoName s_NoName_NoName
  have t_NoText_NoText := kit_ref e9_NoText e10_NoText s_NoText_NoText s_NoText_NoText
  have t_NoText_TooMany := kit_ref e9_TooMany e10_TooMany s_NoText_TooMany s_TooMany_TooMany
  have t_NoText_Nothing := kit_ref e9_Nothing e10_Nothing s_NoText_Nothing s_Nothing_Nothing
  have v_NoText := kit_ve e11_NoText
  have t_TooMany_WideError := kit_ref e9_WideError e10_WideError s_TooMany_WideError s_WideError_WideError
  have t_TooMany_NoRow := kit_ref e9_NoRow e10_NoRow s_TooMany_NoRow s_NoRow_NoRow
  have t_TooMany_NoPair := kit_ref e9_NoPair e10_NoPair s_TooMany_NoPair s_NoPair_NoPair
  have t_TooMany_NoRule := kit_ref e9_NoRule e10_NoRule s_TooMany_NoRule s_NoRule_NoRule
  have t_TooMany_NoName := kit_ref e9_NoName e10_NoName s_TooMany_NoName s_NoName_NoName
  have t_TooMany_NoText := kit_ref e9_NoText e10_NoText s_TooMany_NoText s_NoText_NoText
  have t_TooMany_TooMany := kit_ref e9_TooMany e10_TooMany s_TooMany_TooMany s_TooMany_TooMany
  have t_TooMany_Nothing := kit_ref e9_Nothing e10_Nothing s_TooMany_Nothing s_Nothing_Nothing
  have v_TooMany := kit_ve e11_TooMany
  have t_Nothing_WideError := kit_ref e9_WideError e10_WideError s_Nothing_WideError s_WideError_WideError
  have t_Nothing_NoRow := kit_ref e9_NoRow e10_NoRow s_Nothing_NoRow s_NoRow_NoRow
  have t_Nothing_NoPair := kit_ref e9_NoPair e10_NoPair s_Nothing_NoPair s_NoPair_NoPair
  have t_Nothing_NoRule := kit_ref e9_NoRule e10_NoRule s_Nothing_NoRule s_NoRule_NoRule
  have t_Nothing_NoName := kit_ref e9_NoName e10_NoName s_Nothing_NoName s_NoName_NoName
  have t_Nothing_NoText := kit_ref e9_NoText e10_NoText s_Nothing_NoText s_NoText_NoText
  have t_Nothing_TooMany := kit_ref e9_TooMany e10_TooMany s_Nothing_TooMany s_TooMany_TooMany
  have t_Nothing_Nothing := kit_ref e9_Nothing e10_Nothing s_Nothing_Nothing s_Nothing_Nothing
  have v_Nothing := kit_ve e11_Nothing
  have m_ValueError := PySem.W.mg_none_of X G z_ValueError
  have m_abs := PySem.W.mg_none_of X G z_abs
  have m_int := PySem.W.mg_none_of X G z_int
  have m_isinstance := PySem.W.mg_none_of X G z_isinstance
  have m_len := PySem.W.mg_none_of X G z_len
  have m_list := PySem.W.mg_none_of X G z_list
  have m_range := PySem.W.mg_none_of X G z_range
  have m_repr := PySem.W.mg_none_of X G z_repr
  have m_str := PySem.W.mg_none_of X G z_str
  have m_sum := PySem.W.mg_none_of X G z_sum
  have m_tuple := PySem.W.mg_none_of X G z_tuple
  intro s a ns base H hlen hbits e0 hS
  have GD := ok_draw (P := l.prog) (w := w) (mg := mg) (base := base) (k := 0) F_law_draw
  have GE := ok_deed (P := l.prog) (w := w) (mg := mg) (base := base) (k := 0) F_law_deed F_law_draw F_law_first_words b_law_draw b_law_first_words g_law_draw g_law_first_words m_list m_tuple m_range
  have GR := ok_row (P := l.prog) (w := w) (mg := mg) (base := base) (k := 0) F_law_row GD F_law_draw.kp GE F_law_deed.kp b_law_draw b_law_deed g_law_draw g_law_deed m_tuple m_range
  have GW := ok_well (P := l.prog) (w := w) (mg := mg) (base := base) (k := 0) F_law_well m_abs
  have GN := ok_ren (P := l.prog) (w := w) (mg := mg) (base := base) (k := 0) F_renumbered m_tuple
  have GB := ok_pb (P := l.prog) (w := w) (mg := mg) (base := base) (k := 0) F_put_behind GN F_renumbered.kp b_renumbered g_renumbered m_tuple m_list m_range m_len
  have rP : Rai K mg "NoPair" cNoPair := ⟨x_NoPair, g_NoPair, k_NoPair, e3_NoPair, e10_NoPair⟩
  have rT : Rai K mg "TooMany" cTooMany := ⟨x_TooMany, g_TooMany, k_TooMany, e3_TooMany, e10_TooMany⟩
  have GC := ok_ckX (P := l.prog) (w := w) (base := base) (k := 1) F_check_parts rP rT m_len m_sum g_MOST_DEEDS
  have GP := ok_ptX (P := l.prog) (w := w) (mg := mg) (base := base) (k := 0) F_put_together GC F_check_parts.kp b_check_parts g_check_parts GB F_put_behind.kp b_put_behind g_put_behind m_list m_range
  have KX : KF K mg cWideError cNoPair cTooMany cNoName cNoRow cNoRule cNoText cNothing := ⟨g_WideError, g_NoPair, g_TooMany, g_NoName, g_NoRow, g_NoRule, g_NoText, g_Nothing, X_NoPair, X_TooMany, PySem.W.exm_ref e3_WideError e4_WideError e10_WideError s_NoPair_WideError, PySem.W.exm_ref e3_WideError e4_WideError e10_WideError s_TooMany_WideError,
    by simp only [PySem.W.kitAny, t_NoPair_NoName, t_NoPair_NoRow, t_NoPair_NoRule, t_NoPair_NoText, t_NoPair_Nothing], by simp only [PySem.W.kitAny, t_TooMany_NoName, t_TooMany_NoRow, t_TooMany_NoRule, t_TooMany_NoText, t_TooMany_Nothing], v_NoPair, v_TooMany, t_NoPair_NoPair, t_NoPair_TooMany, t_TooMany_NoPair, t_TooMany_TooMany⟩
  have GK := ok_kd (P := l.prog) (w := w) (base := base) (k := 0) F_law_kind KX GP F_put_together.kp b_put_together g_put_together m_isinstance m_str m_len m_int m_ValueError
  exact law_run F_law b_law GW F_law_well.kp b_law_well g_law_well GD F_law_draw.kp b_law_draw g_law_draw GR F_law_row.kp b_law_row g_law_row GK F_law_kind.kp b_law_kind g_law_kind m_range m_repr m_len m_sum m_int m_str hlen hbits e0 hS
end
end KK
open PySem PySem.W PyProof.Rows
set_option maxHeartbeats 0 in
theorem PySem.Challenge.cw_anywide_k66_rows_that_dont_go_together_holds : PySem.Challenge.rw_anywide_k66_rows_that_dont_go_together.Holds := by
  w_on; o_law; k_head; (case hw => w_witness2)
  k_fill
  refine AW.walkG (l := PySem.Challenge.rw_anywide_k66_rows_that_dont_go_together) (n := 63) rfl (by decide) rfl (fun w h Y => PySem.W.kIn_of Y) ?F
  case F =>
    intro w mg fa h KX G hmg
    refine' KK.all_mk KX G hmg ?a0 ?l0 ?c0 ?k0 ?a1 ?l1 ?c1 ?k1 ?a2 ?l2 ?c2 ?k2 ?a3 ?l3 ?c3 ?k3 ?a4 ?l4 ?c4 ?k4 ?a5 ?l5 ?c5 ?k5 ?a6 ?l6 ?c6 ?k6 ?a7 ?l7 ?c7 ?k7 ?a8 ?l8 ?c8 ?k8 ?a9 ?l9 ?c9 ?k9 ?a10 ?l10 ?c10 ?k10 ?v_MOST_DEEDS ?a_WideError ?x_WideError ?k_WideError ?e1_WideError ?e2_WideError ?e3_WideError ?e4_WideError ?e5_WideError ?e6_WideError ?e7_WideError ?e8_WideError ?e9_WideError ?e10_WideError ?e11_WideError ?a_NoRow ?x_NoRow ?k_NoRow ?e1_NoRow ?e2_NoRow ?e3_NoRow ?e4_NoRow ?e5_NoRow ?e6_NoRow ?e7_NoRow ?e8_NoRow ?e9_NoRow ?e10_NoRow ?e11_NoRow ?a_NoPair ?x_NoPair ?k_NoPair ?e1_NoPair ?e2_NoPair ?e3_NoPair ?e4_NoPair ?e5_NoPair ?e6_NoPair ?e7_NoPair ?e8_NoPair ?e9_NoPair ?e10_NoPair ?e11_NoPair ?a_NoRule ?x_NoRule ?k_NoRule ?e1_NoRule ?e2_NoRule ?e3_NoRule ?e4_NoRule ?e5_NoRule ?e6_NoRule ?e7_NoRule ?e8_NoRule ?e9_NoRule ?e10_NoRule ?e11_NoRule ?a_NoName ?x_NoName ?k_NoName ?e1_NoName ?e2_NoName ?e3_NoName ?e4_NoName ?e5_NoName ?e6_NoName ?e7_NoName ?e8_NoName ?e9_NoName ?e10_NoName ?e11_NoName ?a_NoText ?x_NoText ?k_NoText ?e1_NoText ?e2_NoText ?e3_NoText ?e4_NoText ?e5_NoText ?e6_NoText ?e7_NoText ?e8_NoText ?e9_NoText ?e10_NoText ?e11_NoText ?a_TooMany ?x_TooMany ?k_TooMany ?e1_TooMany ?e2_TooMany ?e3_TooMany ?e4_TooMany ?e5_TooMany ?e6_TooMany ?e7_TooMany ?e8_TooMany ?e9_TooMany ?e10_TooMany ?e11_TooMany ?a_Nothing ?x_Nothing ?k_Nothing ?e1_Nothing ?e2_Nothing ?e3_Nothing ?e4_Nothing ?e5_Nothing ?e6_Nothing ?e7_Nothing ?e8_Nothing ?e9_Nothing ?e10_Nothing ?e11_Nothing ?s_WideError_WideError ?s_WideError_NoRow ?s_WideError_NoPair ?s_WideError_NoRule ?s_WideError_NoName ?s_WideError_NoText ?s_WideError_TooMany ?s_WideError_Nothing ?s_NoRow_WideError ?s_NoRow_NoRow ?s_NoRow_NoPair ?s_NoRow_NoRule ?s_NoRow_NoName ?s_NoRow_NoText ?s_NoRow_TooMany ?s_NoRow_Nothing ?s_NoPair_WideError ?s_NoPair_NoRow ?s_NoPair_NoPair ?s_NoPair_NoRule ?s_NoPair_NoName ?s_NoPair_NoText ?s_NoPair_TooMany ?s_NoPair_Nothing ?s_NoRule_WideError ?s_NoRule_NoRow ?s_NoRule_NoPair ?s_NoRule_NoRule ?s_NoRule_NoName ?s_NoRule_NoText ?s_NoRule_TooMany ?s_NoRule_Nothing ?s_NoName_WideError ?s_NoName_NoRow ?s_NoName_NoPair ?s_NoName_NoRule ?s_NoName_NoName ?s_NoName_NoText ?s_NoName_TooMany ?s_NoName_Nothing ?s_NoText_WideError ?s_NoText_NoRow ?s_NoText_NoPair ?s_NoText_NoRule ?s_NoText_NoName ?s_NoText_NoText ?s_NoText_TooMany ?s_NoText_Nothing ?s_TooMany_WideError ?s_TooMany_NoRow ?s_TooMany_NoPair ?s_TooMany_NoRule ?s_TooMany_NoName ?s_TooMany_NoText ?s_TooMany_TooMany ?s_TooMany_Nothing ?s_Nothing_WideError ?s_Nothing_NoRow ?s_Nothing_NoPair ?s_Nothing_NoRule ?s_Nothing_NoName ?s_Nothing_NoText ?s_Nothing_TooMany ?s_Nothing_Nothing ?z_ValueError ?z_abs ?z_int ?z_isinstance ?z_len ?z_list ?z_range ?z_repr ?z_str ?z_sum ?z_tuple
    (case a0 => k_is)
    (case l0 => k_is)
    (case c0 => k_is)
    (case k0 => k_is)
    (case a1 => k_is)
    (case l1 => k_is)
    (case c1 => k_is)
    (case k1 => k_is)
    (case a2 => k_is)
    (case l2 => k_is)
    (case c2 => k_is)
    (case k2 => k_is)
    (case a3 => k_is)
    (case l3 => k_is)
    (case c3 => k_is)
    (case k3 => k_is)
    (case a4 => k_is)
    (case l4 => k_is)
    (case c4 => k_is)
    (case k4 => k_is)
    (case a5 => k_is)
    (case l5 => k_is)
    (case c5 => k_is)
    (case k5 => k_is)
    (case a6 => k_is)
    (case l6 => k_is)
    (case c6 => k_is)
    (case k6 => k_is)
    (case a7 => k_is)
    (case l7 => k_is)
    (case c7 => k_is)
    (case k7 => k_is)
    (case a8 => k_is)
    (case l8 => k_is)
    (case c8 => k_is)
    (case k8 => k_is)
    (case a9 => k_is)
    (case l9 => k_is)
    (case c9 => k_is)
    (case k9 => k_is)
    (case a10 => k_is)
    (case l10 => k_is)
    (case c10 => k_is)
    (case k10 => k_is)
    (case v_MOST_DEEDS => k_is)
    (case a_WideError => k_is)
    (case x_WideError => k_exc)
    (case k_WideError => k_is)
    (case e1_WideError => k_is)
    (case e2_WideError => k_is)
    (case e3_WideError => k_is)
    (case e4_WideError => k_is)
    (case e5_WideError => k_is)
    (case e6_WideError => k_is)
    (case e7_WideError => k_is)
    (case e8_WideError => k_is)
    (case e9_WideError => k_is)
    (case e10_WideError => k_is)
    (case e11_WideError => k_is)
    (case a_NoRow => k_is)
    (case x_NoRow => k_exc)
    (case k_NoRow => k_is)
    (case e1_NoRow => k_is)
    (case e2_NoRow => k_is)
    (case e3_NoRow => k_is)
    (case e4_NoRow => k_is)
    (case e5_NoRow => k_is)
    (case e6_NoRow => k_is)
    (case e7_NoRow => k_is)
    (case e8_NoRow => k_is)
    (case e9_NoRow => k_is)
    (case e10_NoRow => k_is)
    (case e11_NoRow => k_is)
    (case a_NoPair => k_is)
    (case x_NoPair => k_exc)
    (case k_NoPair => k_is)
    (case e1_NoPair => k_is)
    (case e2_NoPair => k_is)
    (case e3_NoPair => k_is)
    (case e4_NoPair => k_is)
    (case e5_NoPair => k_is)
    (case e6_NoPair => k_is)
    (case e7_NoPair => k_is)
    (case e8_NoPair => k_is)
    (case e9_NoPair => k_is)
    (case e10_NoPair => k_is)
    (case e11_NoPair => k_is)
    (case a_NoRule => k_is)
    (case x_NoRule => k_exc)
    (case k_NoRule => k_is)
    (case e1_NoRule => k_is)
    (case e2_NoRule => k_is)
    (case e3_NoRule => k_is)
    (case e4_NoRule => k_is)
    (case e5_NoRule => k_is)
    (case e6_NoRule => k_is)
    (case e7_NoRule => k_is)
    (case e8_NoRule => k_is)
    (case e9_NoRule => k_is)
    (case e10_NoRule => k_is)
    (case e11_NoRule => k_is)
    (case a_NoName => k_is)
    (case x_NoName => k_exc)
    (case k_NoName => k_is)
    (case e1_NoName => k_is)
    (case e2_NoName => k_is)
    (case e3_NoName => k_is)
    (case e4_NoName => k_is)
    (case e5_NoName => k_is)
    (case e6_NoName => k_is)
    (case e7_NoName => k_is)
    (case e8_NoName => k_is)
    (case e9_NoName => k_is)
    (case e10_NoName => k_is)
    (case e11_NoName => k_is)
    (case a_NoText => k_is)
    (case x_NoText => k_exc)
    (case k_NoText => k_is)
    (case e1_NoText => k_is)
    (case e2_NoText => k_is)
    (case e3_NoText => k_is)
    (case e4_NoText => k_is)
    (case e5_NoText => k_is)
    (case e6_NoText => k_is)
    (case e7_NoText => k_is)
    (case e8_NoText => k_is)
    (case e9_NoText => k_is)
    (case e10_NoText => k_is)
    (case e11_NoText => k_is)
    (case a_TooMany => k_is)
    (case x_TooMany => k_exc)
    (case k_TooMany => k_is)
    (case e1_TooMany => k_is)
    (case e2_TooMany => k_is)
    (case e3_TooMany => k_is)
    (case e4_TooMany => k_is)
    (case e5_TooMany => k_is)
    (case e6_TooMany => k_is)
    (case e7_TooMany => k_is)
    (case e8_TooMany => k_is)
    (case e9_TooMany => k_is)
    (case e10_TooMany => k_is)
    (case e11_TooMany => k_is)
    (case a_Nothing => k_is)
    (case x_Nothing => k_exc)
    (case k_Nothing => k_is)
    (case e1_Nothing => k_is)
    (case e2_Nothing => k_is)
    (case e3_Nothing => k_is)
    (case e4_Nothing => k_is)
    (case e5_Nothing => k_is)
    (case e6_Nothing => k_is)
    (case e7_Nothing => k_is)
    (case e8_Nothing => k_is)
    (case e9_Nothing => k_is)
    (case e10_Nothing => k_is)
    (case e11_Nothing => k_is)
    (case s_WideError_WideError => k_is)
    (case s_WideError_NoRow => k_is)
    (case s_WideError_NoPair => k_is)
    (case s_WideError_NoRule => k_is)
    (case s_WideError_NoName => k_is)
    (case s_WideError_NoText => k_is)
    (case s_WideError_TooMany => k_is)
    (case s_WideError_Nothing => k_is)
    (case s_NoRow_WideError => k_is)
    (case s_NoRow_NoRow => k_is)
    (case s_NoRow_NoPair => k_is)
    (case s_NoRow_NoRule => k_is)
    (case s_NoRow_NoName => k_is)
    (case s_NoRow_NoText => k_is)
    (case s_NoRow_TooMany => k_is)
    (case s_NoRow_Nothing => k_is)
    (case s_NoPair_WideError => k_is)
    (case s_NoPair_NoRow => k_is)
    (case s_NoPair_NoPair => k_is)
    (case s_NoPair_NoRule => k_is)
    (case s_NoPair_NoName => k_is)
    (case s_NoPair_NoText => k_is)
    (case s_NoPair_TooMany => k_is)
    (case s_NoPair_Nothing => k_is)
    (case s_NoRule_WideError => k_is)
    (case s_NoRule_NoRow => k_is)
    (case s_NoRule_NoPair => k_is)
    (case s_NoRule_NoRule => k_is)
    (case s_NoRule_NoName => k_is)
    (case s_NoRule_NoText => k_is)
    (case s_NoRule_TooMany => k_is)
    (case s_NoRule_Nothing => k_is)
    (case s_NoName_WideError => k_is)
    (case s_NoName_NoRow => k_is)
    (case s_NoName_NoPair => k_is)
    (case s_NoName_NoRule => k_is)
    (case s_NoName_NoName => k_is)
    (case s_NoName_NoText => k_is)
    (case s_NoName_TooMany => k_is)
    (case s_NoName_Nothing => k_is)
    (case s_NoText_WideError => k_is)
    (case s_NoText_NoRow => k_is)
    (case s_NoText_NoPair => k_is)
    (case s_NoText_NoRule => k_is)
    (case s_NoText_NoName => k_is)
    (case s_NoText_NoText => k_is)
    (case s_NoText_TooMany => k_is)
    (case s_NoText_Nothing => k_is)
    (case s_TooMany_WideError => k_is)
    (case s_TooMany_NoRow => k_is)
    (case s_TooMany_NoPair => k_is)
    (case s_TooMany_NoRule => k_is)
    (case s_TooMany_NoName => k_is)
    (case s_TooMany_NoText => k_is)
    (case s_TooMany_TooMany => k_is)
    (case s_TooMany_Nothing => k_is)
    (case s_Nothing_WideError => k_is)
    (case s_Nothing_NoRow => k_is)
    (case s_Nothing_NoPair => k_is)
    (case s_Nothing_NoRule => k_is)
    (case s_Nothing_NoName => k_is)
    (case s_Nothing_NoText => k_is)
    (case s_Nothing_TooMany => k_is)
    (case s_Nothing_Nothing => k_is)
    (case z_ValueError => k_is)
    (case z_abs => k_is)
    (case z_int => k_is)
    (case z_isinstance => k_is)
    (case z_len => k_is)
    (case z_list => k_is)
    (case z_range => k_is)
    (case z_repr => k_is)
    (case z_str => k_is)
    (case z_sum => k_is)
    (case z_tuple => k_is)
