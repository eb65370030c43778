import PyProof.Rows.All
import Wide.All
import OpenK.AllK
import Wide.FinOn
import HandS.Base
import HandS.Call
import HandS.List
import HandS.Comp
import HandS.Ends
import HandS.Dict
import HandS.Iter
import HandS.EndBits
import HandS.Words
import HandS.WordsList
import HandS.WordsDict
import HandS.Text
import HandS.Wide
import HandS.WideBits
import HandS.Conv
import HandS.TupLe
import HandS.IsInst
import HandS.ExcIs
import HandS.ExcValue
import HandS.TupSets
import HandS.Zip
import HandS.Walk
import HandS.TupAny
import HandS.Deep
import PyProof.ReprRoads
import PyProof.ReprBulk
import KE.GoesZip
import KE.GoesMore
import KE.GoesEnum
import HandS.DictTup
import HandS.TupLen
import HandS.NoneIn
import HandS.Records
import HandS.Flow
import HandS.More
import KE.KDictWalk
import KE.KDictDisplayH
import PyProof.WalkInts
import PyProof.DictTable
import KE.KeyNested
import KE.KDictKeyed
import PyProof.DictMoreH
import HandS.ListItems
import KE.KTurns
import HandS.Star
import PyProof.StrOps2
import HandS.TryOnly
import HandS.WordsExc
import HandS.Style
import HandS.RaiseMore
import HandS.FStr
import HandS.ExcOwn
import HandS.ExcCtx
import HandS.SetFor
import PySem.Challenge.RW_anywide_k32_choices_of_one_worth_counted
set_option Elab.async false
set_option linter.all false
set_option maxRecDepth 100000
namespace AW
open PySem PySem.Spec PyProof.Rows L2

/-! ### a def's call at one around -/
theorem fn_at {P : Program} {w : World} {K : PySem.W.Frag} {mg : Str → Option Value} {base : Heap} {k : Nat} {f : Addr} {x qual : Str} {st : Stmt} {fd : FuncData} {N ps : List Str}
    (F : Fun K x qual st f fd) (S : FnScope N ps (defScope st)) {A : Around} {outer : List Env} {s : Shared} {H : Hp} {args : Args} {us : List Value} {vs : List V} {Q : VK} {E : XK}
    (hr : Room (k + 1) A) (e0 : Env0 P w K mg base A outer s H) (hb : BindsTo s fd args (ps.zip us)) (r : Vals vs us) (hl : vs.length = ps.length)
    (hbody : ∀ cdv : Value, ∃ t, PSs (cxOf CX0 P w K mg base N qual (defScope st) f cdv A outer s H E).nox (defBody st) t ∧ t { nx := fun _ H' => Q .non H', rt := Q } (start N vs) H) :
    codeAny (model P w) A (.call (.ref f) args) (CR CX0 outer P w H s Q E) s := by
  obtain ⟨oc, od, kV, doc, pm, an, cdv, ct, osl, rfl, lk, hcd⟩ := F.ex
  have keep0 : ∀ b o, base.get? b = some o → s.heap.get? b = some o := fun b o e => (e0.bs b o e).1
  have KX := e0.mod.kin.keeps keep0
  refine codeAny_call_function (Room.depth hr) (KX _ _ lk) rfl S.co S.gen rfl (PySem.W.codeRec_of KX hcd) (hb _ _ _ _ ?_)
  have kinds : ∀ y ∈ ps.zip us, (defScope st).names.lookup y.1 = some .local ∨ ((defScope st).names.lookup y.1 = some .cell ∧ ((cellsFrom (s.heap.objs.size + 1) (defScope st).names []).lookup y.1).isSome = true) := by
    intro y hy
    obtain ⟨n, v⟩ := y
    exact (S.par n (List.of_mem_zip hy).1).elim Or.inl fun q => Or.inr ⟨q, PySem.W.cellsFrom_some _ _ _ (.inl q)⟩
  refine wpAny_newFunctionEnv_cells S.kind kinds ?_
  rintro env rfl s1 ic
  obtain ⟨t, ht, hq⟩ := hbody cdv
  refine ⟨(e0.mod.nolimit.keeps keep0).keeps ic.toInCall.keep, codeAny_func (wpAny_mono (ht.nox.run [] s1 (start N vs) H _ (inv_start S hr.hd e0 hl r ic) hq) ?_ (fun _ _ z => z))⟩
  intro fl s' hs
  cases fl with
  | ret u =>
    obtain ⟨v, σ', H', J, rv, q⟩ := hs
    exact ⟨v, H', J.os, J.bare, J.base, J.hok, rv, q⟩
  | next =>
    obtain ⟨σ', H', J, q⟩ := hs
    exact ⟨V.non, H', J.os, J.bare, J.base, J.hok, rfl, q⟩
  | brk => exact hs.elim fun _ z => z.elim fun _ z => z.2.elim
  | cont => exact hs.elim fun _ z => z.elim fun _ z => z.2.elim

/-! ### the law's own call -/
theorem env_at {P : Program} {w : World} {K : PySem.W.Frag} {mg mb : Str → Option Value} {a : Addr} {s1 : Shared} {vs : List Value} {H : Hp}
    (KX : K.In s1.heap) (hns : s1.heap.Ns mainGlobals mg) (hb : s1.heap.Ns builtinsNs mb) (hbb : ∀ x : Str, x ≠ "__name__" → mb x = bootBuiltins x) (hlim : s1.heap.NoLimit) (hg : s1.gens = #[])
    (ha : s1.heap.get? a = some { cls := .type "list", data := .seq vs.toArray }) (one : ∀ b u, H b = some u → b = a) (out : ∀ o, K.lookup a = some o → H a = none) (ok : HOk P w H s1.heap) :
    Env0 P w K mg (hidT s1.heap H) callerA [] s1 H := by
  have dicts : ∀ {b : Addr} {m : Str → Option Value}, s1.heap.Ns b m → (hidT s1.heap H).Ns b m := by
    rintro b m ⟨o, es, ep, e, d, r⟩
    refine ⟨o, es, ep, hidT_get e ?_, d, r⟩
    match q : H b with
    | none => rfl
    | some u =>
      obtain rfl := one b u q
      have e2 := Option.some.inj (e.symm.trans ha)
      rw [e2] at d
      cases d
  have kin : K.In (hidT s1.heap H) := by
    intro b o e
    refine hidT_get (KX b o e) ?_
    match q : H b with
    | none => rfl
    | some u =>
      obtain rfl := one b u q
      exact q.symm.trans (out o e)
  obtain ⟨mc, l1, l2⟩ := hlim
  exact ⟨rfl, ⟨kin, dicts hns, ⟨mb, dicts hb, hbb⟩, ⟨mc, dicts l1, l2⟩⟩, fun b o e => of_hidT e, Nat.le_of_eq (hidT_size _ _), trivial, (fun b z => nomatch z), ok, .of_eq hg⟩

theorem law_end {P : Program} {w : World} {K : PySem.W.Frag} {mg mb : Str → Option Value} {fa a : Addr} {s1 : Shared} {vs : List Value} {ns : List Int}
    (KX : K.In s1.heap) (hns : s1.heap.Ns mainGlobals mg) (hb : s1.heap.Ns builtinsNs mb) (hbb : ∀ x : Str, x ≠ "__name__" → mb x = bootBuiltins x) (hlim : s1.heap.NoLimit) (hg : s1.gens = #[])
    (ha : s1.heap.get? a = some { cls := .type "list", data := .seq vs.toArray }) (hi : IntsAre vs ns) (hl : ns.length ≤ sizeLine)
    (run : ∀ (base : Heap) (H : Hp), Env0 P w K mg base callerA [] s1 H → SqL K H a (ns.map V.int) →
      codeAny (model P w) callerA (.call (.ref fa) ⟨[.ref a], []⟩) (CR CX0 [] P w H s1 (fun v _ => v = .bl true) E0) s1) :
    codeAny (model P w) callerA (.call (.ref fa) ⟨[.ref a], []⟩) (fun r s' => r = .ok (.ret (.bool true)) ∧ OldK s1.heap s'.heap ∧ s'.os = s1.os ∧ AllBare s'.gens) s1 := by
  have rv := vals_ints hi
  have fin : ∀ H : Hp, HOk P w H s1.heap → (∀ b u, H b = some u → ∃ o xs, u = .frz o (.lst xs)) → ∀ r s', CR CX0 [] P w H s1 (fun v _ => v = .bl true) E0 r s' →
      r = .ok (.ret (.bool true)) ∧ OldK s1.heap s'.heap ∧ s'.os = s1.os ∧ AllBare s'.gens := by
    intro H ok hf r s' h
    match r, h with
    | .ok (.ret u), ⟨v, H', os, bare, un, ok2, rel, q⟩ =>
      obtain rfl : v = .bl true := q
      obtain rfl : u = Value.bool true := rel
      refine ⟨rfl, OldK.of_keep ?_, os, bare⟩
      intro b o e
      match qb : H b with
      | none => exact un.keep b o e qb (fun z => nomatch z) (fun z => nomatch z)
      | some ho =>
        obtain ⟨o2, xs, rfl⟩ := hf b ho qb
        have k1 := (ok b _ qb).1
        have k2 := (ok2 b _ (un.frzs b o2 _ qb)).1
        rw [e] at k1
        cases k1
        exact k2
  match hk : K.lookup a with
  | some o =>
    have e := (KX a o hk).symm.trans ha
    obtain rfl := Option.some.inj e
    have ok : HOk P w (fun _ => none) s1.heap := fun b u z => nomatch z
    refine codeAny_mono (run _ (fun _ => none) (env_at KX hns hb hbb hlim hg ha (fun b u z => nomatch z) (fun _ _ => rfl) ok) ?_) (fin _ ok fun b u z => nomatch z)
    exact .inr ⟨_, vs.toArray, _, hk, rfl, rfl, rfl, by rw [List.size_toArray, hi.length]; exact hl, by simpa using rv⟩
  | none =>
    let o : Obj := { cls := .type "list", data := .seq vs.toArray }
    have at_ : ∀ b u, (if b = a then some (HO.frz o (.lst (ns.map V.int))) else none) = some u → b = a ∧ u = HO.frz o (.lst (ns.map V.int)) := by
      intro b u z
      by_cases hb : b = a
      · rw [if_pos hb] at z
        exact ⟨hb, (Option.some.inj z).symm⟩
      · rw [if_neg hb] at z
        cases z
    have ok : HOk P w (fun b => if b = a then some (HO.frz o (.lst (ns.map V.int))) else none) s1.heap := by
      intro b u z
      obtain ⟨rfl, rfl⟩ := at_ b u z
      exact ⟨ha, by rw [List.length_map]; exact hl, vs, _, rv, ha⟩
    refine codeAny_mono (run _ _ (env_at KX hns hb hbb hlim hg ha (fun b u z => (at_ b u z).1) (fun o' e => absurd (hk.symm.trans e) (fun z => nomatch z)) ok) ?_) (fin _ ok fun b u z => ⟨_, _, (at_ b u z).2⟩)
    exact .inl (.inr ⟨o, if_pos rfl⟩)

theorem walkG {l : PySem.W.OpenLaw} {n : Nat} {q : Program} {loose : List Str} {XP : (Str → Option Value) → Heap → Prop} {YP : World → Heap → Prop} {d : DefRec} {K : Params → PySem.W.Frag}
    (hn : l.most = some n) (hn2 : n ≤ sizeLine) (hdf : d.params.defaults = []) (hY : ∀ (w : World) (h : Heap), YP w h → (K w.params).In h)
    (F : ∀ (w : World) (mg : Str → Option Value) (fa : Addr) (h : Heap), (K w.params).In h → h.Ns mainGlobals mg → mg d.name = some (.ref fa) →
      ∀ (s : Shared) (a : Addr) (ns : List Int) (base : Heap) (H : Hp), ns.length ≤ n → (∀ z ∈ ns, Builtin.Int.intBits z ≤ 1048576) → Env0 l.prog w (K w.params) mg base callerA [] s H → SqL (K w.params) H a (ns.map V.int) →
        codeAny (model l.prog w) callerA (.call (.ref fa) ⟨[.ref a], []⟩) (CR CX0 [] l.prog w H s (fun v _ => v = .bl true) E0) s) :
    PySem.W.WalkO q loose XP YP l.row.toRowW d [] (fun f vs => PySem.call f vs) := by
  apply Att.attach_callB hn hdf
  intro w s0 s1 mg mb fa o pm cd doc a vs ns G Y ho hd hcd hmg hobj hints hlen hbits hg
  have KX := hY w _ Y
  exact law_end KX G.T.g G.T.b G.T.builtins G.T.nolimit hg hobj hints (Nat.le_trans hlen hn2) fun base H e0 hS => F w mg fa _ KX G.T.g hmg s1 a ns base H hlen hbits e0 hS

/-! ### repr of data -/
section
variable {X : Cx}
/-- what a value reads, whatever the state -/
def Rz (X : Cx) (H : Hp) (v : V) (d : PyData) : Prop := ∀ pins σ s u, Inv X pins σ H s → RelV v u → ∃ as, Reads s.heap u d as ∧ sysModules ∉ as
def rRepr (X : Cx) : List V → Hp → VK → Prop := fun xs H Q => ∃ (x : V) (d : PyData), xs = [x] ∧ (Rz X H x d ∨ (Dp X.K H x d ∧ d.hasDict = false)) ∧ d.showable = true ∧ d.depth ≤ 40 ∧ d.shown.length ≤ sizeLine ∧ Q (.str d.shown) H
theorem call_repr (hg : X.A.guards = some []) (hu : X.A.units + 64 < cLine) : CallR X (.builtin "repr") (rRepr X) := by
  intro pins s σ H xs us Q I r h
  obtain ⟨x, d, rfl, hd, hs, hp, hz, q⟩ := h
  match us, r with
  | [u], .cons rx .nil =>
    have rd : ∃ as, Reads s.heap u d as ∧ (d.hasDict = true → sysModules ∉ as) := by
      rcases hd with hd | ⟨hd, hn⟩
      · obtain ⟨as, h1, h2⟩ := hd pins σ s u I rx
        exact ⟨as, h1, fun _ => h2⟩
      · obtain ⟨as, h1⟩ := Dp.reads I d x u hd rx
        exact ⟨as, h1, fun z => by rw [hn] at z; cases z⟩
    obtain ⟨as, h1, h2⟩ := rd
    cases h1 with
    | none => exact PySem.P.repr_of_none ⟨.str _, H, I.tok _, ⟨_, rfl⟩, q⟩
    | bool b => exact PySem.P.repr_of_bool ⟨.str _, H, I.tok _, ⟨_, rfl⟩, by have q' := q; simp only [PyData.shown] at q'; cases b <;> exact q'⟩
    | int i t => exact PySem.P.repr_of_int (by simpa [PyData.showable] using hs) ⟨.str _, H, I.tok _, ⟨_, rfl⟩, by simpa only [PyData.shown] using q⟩
    | str x t => exact PySem.P.repr_of_str ⟨.str _, H, I.tok _, ⟨_, rfl⟩, by simpa only [PyData.shown] using q⟩ (by simpa only [PyData.shown] using hz)
    | list a b c e => exact repr_of_reads' (Reads.list a b c e) hs h2 hg (by omega) (fun _ _ e => e) (fun h' u tk k => ⟨.str _, H, I.kept k, ⟨_, rfl⟩, q⟩) hz
    | tuple a b c e => exact repr_of_reads' (Reads.tuple a b c e) hs h2 hg (by omega) (fun _ _ e => e) (fun h' u tk k => ⟨.str _, H, I.kept k, ⟨_, rfl⟩, q⟩) hz
    | dict a b c e f => exact repr_of_reads' (Reads.dict a b c e f) hs h2 hg (by omega) (fun _ _ e => e) (fun h' u tk k => ⟨.str _, H, I.kept k, ⟨_, rfl⟩, q⟩) hz

theorem Rz.int (H : Hp) (i : Int) : Rz X H (.int i) (.int i) := by
  rintro pins σ s u I ⟨t, rfl⟩
  exact ⟨_, Reads.int i t, (fun z => nomatch z)⟩
theorem Rz.str (H : Hp) (x : Str) : Rz X H (.str x) (.str x) := by
  rintro pins σ s u I ⟨t, rfl⟩
  exact ⟨_, Reads.str x t, (fun z => nomatch z)⟩
theorem rz_all {H : Hp} : ∀ {vs : List V} {ds : List PyData}, Paired (Rz X H) vs ds → ∀ {pins σ s us}, Inv X pins σ H s → Vals vs us → ∃ as, ReadsAll s.heap us ds as ∧ sysModules ∉ as
  | _, _, .nil, _, _, _, _, _, .nil => ⟨_, ReadsAll.nil, (fun z => nomatch z)⟩
  | _, _, .cons h t, _, _, _, _, I, .cons r rs => by
    obtain ⟨as, a1, a2⟩ := h _ _ _ _ I r
    obtain ⟨bs, b1, b2⟩ := rz_all t I rs
    exact ⟨_, ReadsAll.cons a1 b1, fun z => (List.mem_append.mp z).elim a2 b2⟩
theorem Rz.tup {H : Hp} {a : Addr} {xs : List V} {ds : List PyData} (h : SqT X.K H a xs) (hs : Paired (Rz X H) xs ds) : Rz X H (.ref a) (.tuple ds) := by
  intro pins σ s u I r
  obtain rfl : u = Value.ref a := r
  obtain ⟨its, rv, ⟨o, ho, hc, n, hd⟩, _⟩ := I.tuple h
  obtain ⟨as, h1, h2⟩ := rz_all hs I rv
  exact ⟨_, Reads.tuple ho hc hd h1, h2⟩
end
end AW
namespace AW
open PySem PySem.Spec PyProof.Rows L2
section
variable {X : Cx}
def CPowW (i j : Int) : Prop := 0 ≤ j ∧ (Builtin.Int.intBits i : Int) * j ≤ 2 ^ 27
theorem op_powW : OpR X (binaryOp .Pow) (rI CPowW fun i j => .int (i ^ j.toNat)) := opI fun _ _ _ _ _ _ _ hc q => pow_int hc.1 hc.2 q
end
theorem bits_lt {z : Int} {n : Nat} (h : Builtin.Int.intBits z ≤ n) : z.natAbs < 2 ^ n := by
  unfold Builtin.Int.intBits at h
  by_cases e : z = 0
  · subst e
    exact Nat.pos_of_ne_zero (by simp)
  · rw [if_neg (by simpa using e)] at h
    have : z.natAbs ≠ 0 := by omega
    exact (Nat.log2_lt this).mp (by omega)
theorem seed_ok {z c : Int} (h0 : 0 ≤ z) (h1 : z ≤ 2147483629) (h2 : Builtin.Int.intBits c ≤ 1048576) : CPowW (z * 50021 + c) 3 := by
  refine ⟨by decide, ?_⟩
  have hc := bits_lt h2
  have h3 : (z * 50021 + c).natAbs < 2 ^ 1048577 := by
    have a : (z * 50021 + c).natAbs ≤ (z * 50021).natAbs + c.natAbs := Int.natAbs_add_le _ _
    have b : (z * 50021).natAbs ≤ 2 ^ 48 := by omega
    have d : (2 : Nat) ^ 48 ≤ 2 ^ 1048576 := Nat.pow_le_pow_right (by decide) (by decide)
    have e : (2 : Nat) ^ 1048577 = 2 ^ 1048576 + 2 ^ 1048576 := by rw [Nat.pow_succ]; omega
    omega
  have h4 := PyProof.Rows.intBits_le h3
  have e : (2 : Int) ^ 27 = 134217728 := by decide
  rw [e]
  omega
/-! ### what follows an if, shown once -/
def tMid (t u : TS) : TS := fun D σ H => ∃ M : L2.St → Hp → Prop, t { D with nx := M } σ H ∧ ∀ σ2 H2, M σ2 H2 → u D σ2 H2
theorem pss_mid {X : Cx} {st : Stmt} {r : List Stmt} {t u : TS} (a : PS X st t) (b : PSs X r u) : PSs X (st :: r) (tMid t u) := by
  constructor
  rintro pins s σ H D I ⟨M, h1, h2⟩
  apply wpAny_execs_cons
  refine thn (a.run pins s σ H _ I h1) ?_
  intro fl s2 z
  match fl, z with
  | .next, ⟨σ2, H2, I2, m⟩ => exact b.run pins s2 σ2 H2 D I2 (h2 σ2 H2 m)
  | .ret _, z => exact z
  | .brk, z => exact z
  | .cont, z => exact z
/-! ### the well -/
def WL (H : Hp) (a c : Addr) : Prop := a ≠ c ∧ ∃ (cs : List Int) (r s : Int), H a = some (.lst [.ref c, .int r, .int s]) ∧ H c = some (.lst (cs.map V.int))
/-- all but the well stands as it stood -/
def Kp (a c : Addr) (H H' : Hp) : Prop := ∀ b o, b ≠ a → b ≠ c → H b = some o → H' b = some o
theorem Kp.refl (a c : Addr) (H : Hp) : Kp a c H H := fun _ _ _ _ h => h
theorem Kp.trans {a c : Addr} {H H1 H2 : Hp} (h : Kp a c H H1) (k : Kp a c H1 H2) : Kp a c H H2 := fun b o n1 n2 e => k b o n1 n2 (h b o n1 n2 e)
theorem Kp.tup {a c : Addr} {H H' : Hp} (w : WL H a c) (k : Kp a c H H') {b : Addr} {xs : List V} (h : H b = some (.tup xs)) : H' b = some (.tup xs) := by
  obtain ⟨_, cs, r, s, e1, e2⟩ := w
  exact k b _ (ne_of h e1 (fun z => nomatch z)) (ne_of h e2 (fun z => nomatch z)) h
theorem Kp.same {a c : Addr} {H H1 H2 : Hp} (ha : H a = none) (hc : H c = none) (s : Same H H1) (k : Kp a c H1 H2) : Same H H2 := fun b o e => k b o (ne_of_none e ha) (ne_of_none e hc) (s b o e)
theorem same_new {H : Hp} {p : Addr} {o : HO} (h : H p = none) : Same H (upd H p o) := fun b x e => by
  rw [upd_ne (ne_of_none e h)]
  exact e
theorem WL.same {H H' : Hp} {a c : Addr} (w : WL H a c) (k : Same H H') : WL H' a c := by
  obtain ⟨n, cs, r, s, e1, e2⟩ := w
  exact ⟨n, cs, r, s, k _ _ e1, k _ _ e2⟩
theorem WL.ne_new {H : Hp} {a c p : Addr} (w : WL H a c) (h : H p = none) : p ≠ a ∧ p ≠ c := by
  obtain ⟨n, cs, r, s, e1, e2⟩ := w
  exact ⟨(ne_of_none e1 h).symm, (ne_of_none e2 h).symm⟩
theorem WL.upd {H : Hp} {a c p : Addr} {o : HO} (w : WL H a c) (h1 : p ≠ a) (h2 : p ≠ c) : WL (upd H p o) a c := by
  obtain ⟨n, cs, r, s, e1, e2⟩ := w
  exact ⟨n, cs, r, s, by rw [upd_ne h1.symm]; exact e1, by rw [upd_ne h2.symm]; exact e2⟩
theorem Same.kp {a c : Addr} {H H' : Hp} (s : Same H H') : Kp a c H H' := fun b o _ _ e => s b o e
theorem dp_ints {K : PySem.W.Frag} {H : Hp} : ∀ cs : List Int, DpAll K H (cs.map V.int) (cs.map PyData.int)
  | [] => .nil
  | c :: cs => .cons (.int c) (dp_ints cs)
theorem lay_ints : ∀ cs : List Int, PyData.canLayAll0 (cs.map PyData.int) = true ∧ PyData.depthAll (cs.map PyData.int) = 0
  | [] => ⟨by simp only [List.map_nil, PyData.canLayAll0], by simp only [List.map_nil, PyData.depthAll]⟩
  | c :: cs => by
    obtain ⟨h1, h2⟩ := lay_ints cs
    exact ⟨by simp only [List.map_cons, PyData.canLayAll0, PyData.canLay0, h1, Bool.and_self], by simp only [List.map_cons, PyData.depthAll, PyData.depth, h2, Nat.max_self]⟩
theorem shaped_ints (cs : List Int) : SeqAt.shaped (.list (cs.map PyData.int)) = true := by
  obtain ⟨h1, h2⟩ := lay_ints cs
  simp only [SeqAt.shaped, PyData.canLay0, PyData.depth, h1, h2, Bool.true_and]
  decide
theorem dp_strs {K : PySem.W.Frag} {H : Hp} : ∀ cs : List Str, DpAll K H (cs.map V.str) (cs.map PyData.str)
  | [] => .nil
  | c :: cs => .cons (.str c) (dp_strs cs)
theorem lay_strs : ∀ cs : List Str, (∀ x ∈ cs, PyData.strOk x = true) → PyData.canLayAll0 (cs.map PyData.str) = true ∧ PyData.depthAll (cs.map PyData.str) = 0
  | [], _ => ⟨by simp only [List.map_nil, PyData.canLayAll0], by simp only [List.map_nil, PyData.depthAll]⟩
  | c :: cs, h => by
    obtain ⟨h1, h2⟩ := lay_strs cs fun x hx => h x (List.mem_cons_of_mem _ hx)
    exact ⟨by simp only [List.map_cons, PyData.canLayAll0, PyData.canLay0, h1, h c List.mem_cons_self, Bool.and_self], by simp only [List.map_cons, PyData.depthAll, PyData.depth, h2, Nat.max_self]⟩
theorem shaped_strs (cs : List Str) (h : ∀ x ∈ cs, PyData.strOk x = true) : SeqAt.shaped (.list (cs.map PyData.str)) = true := by
  obtain ⟨h1, h2⟩ := lay_strs cs h
  simp only [SeqAt.shaped, PyData.canLay0, PyData.depth, h1, h2, Bool.true_and]
  decide
theorem seq0 (n : Nat) : seqIndex? 0 (n + 1) = some 0 := by
  unfold seqIndex?
  simp
/-! ### the words of deeds, deeds, rows -/
def fwL : List (Str × Int) := [("none", 0), ("one", 0), ("all", 0), ("not", 1), ("neg", 1), ("twice", 1), ("and", 2), ("or", 2), ("xor", 2), ("add", 2), ("sub", 2)]
theorem fw_ok : ∀ x ∈ fwL.map (·.1), PyData.strOk x = true := by decide +kernel
def fwK : List (Key × V) := fwL.map fun p => (Sum.inr p.1, .int p.2)
/-- a deed: its word and its numbers -/
abbrev Deed := Str × List Int
def dV (d : Deed) : List V := .str d.1 :: d.2.map V.int
theorem dv0 (d : Deed) : atI (dV d) 0 = some (.str d.1) := atI_nat (j := 0) rfl
theorem dvN {d : Deed} {k : Nat} {i : Int} (h : d.2[k]? = some i) : atI (dV d) ((k + 1 : Nat) : Int) = some (.int i) := atI_nat (by show (d.2.map V.int)[k]? = _; rw [List.getElem?_map, h]; rfl)
structure DeedOk (m : Int) (d : Deed) : Prop where
  word : (d.1, (d.2.length : Int)) ∈ fwL
  ahead : ∀ i ∈ d.2, 0 ≤ i ∧ i < m
theorem fw_at {z : Int} (h0 : 0 ≤ z) (h1 : z < 11) : ∃ x n, (x, n) ∈ fwL ∧ 0 ≤ n ∧ n ≤ 2 ∧ atI (fwK.map fun kv => kV kv.1) z = some (.str x) ∧ valV fwK (Sum.inr x) = some (.int n) := by
  obtain ⟨k, rfl⟩ := Int.eq_ofNat_of_zero_le h0
  have hk : k = 0 ∨ k = 1 ∨ k = 2 ∨ k = 3 ∨ k = 4 ∨ k = 5 ∨ k = 6 ∨ k = 7 ∨ k = 8 ∨ k = 9 ∨ k = 10 := by omega
  rcases hk with rfl | rfl | rfl | rfl | rfl | rfl | rfl | rfl | rfl | rfl | rfl
  · exact ⟨"none", 0, by decide +kernel, by decide, by decide, by decide +kernel, by decide +kernel⟩
  · exact ⟨"one", 0, by decide +kernel, by decide, by decide, by decide +kernel, by decide +kernel⟩
  · exact ⟨"all", 0, by decide +kernel, by decide, by decide, by decide +kernel, by decide +kernel⟩
  · exact ⟨"not", 1, by decide +kernel, by decide, by decide, by decide +kernel, by decide +kernel⟩
  · exact ⟨"neg", 1, by decide +kernel, by decide, by decide, by decide +kernel, by decide +kernel⟩
  · exact ⟨"twice", 1, by decide +kernel, by decide, by decide, by decide +kernel, by decide +kernel⟩
  · exact ⟨"and", 2, by decide +kernel, by decide, by decide, by decide +kernel, by decide +kernel⟩
  · exact ⟨"or", 2, by decide +kernel, by decide, by decide, by decide +kernel, by decide +kernel⟩
  · exact ⟨"xor", 2, by decide +kernel, by decide, by decide, by decide +kernel, by decide +kernel⟩
  · exact ⟨"add", 2, by decide +kernel, by decide, by decide, by decide +kernel, by decide +kernel⟩
  · exact ⟨"sub", 2, by decide +kernel, by decide, by decide, by decide +kernel, by decide +kernel⟩
theorem awSnoc {α β : Type} {F : α → β → Prop} {x : α} {y : β} (h : F x y) : ∀ {l : List α} {l2 : List β}, Paired F l l2 → Paired F (l ++ [x]) (l2 ++ [y])
  | _, _, .nil => .cons h .nil
  | _, _, .cons r t => .cons r (awSnoc h t)
theorem awMap {α β : Type} {F G : α → β → Prop} (f : ∀ a b, F a b → G a b) : ∀ {l : List α} {l2 : List β}, Paired F l l2 → Paired G l l2
  | _, _, .nil => .nil
  | _, _, .cons r t => .cons (f _ _ r) (awMap f t)
theorem awLen {α β : Type} {F : α → β → Prop} : ∀ {l : List α} {l2 : List β}, Paired F l l2 → l.length = l2.length
  | _, _, .nil => rfl
  | _, _, .cons _ t => congrArg (· + 1) (awLen t)
theorem awGet {α β : Type} {F : α → β → Prop} : ∀ {l : List α} {l2 : List β} {i : Nat} {x : α}, Paired F l l2 → l[i]? = some x → ∃ y, l2[i]? = some y ∧ F x y
  | _, _, _, _, .nil, e => by simp at e
  | _, _, 0, _, .cons r _, e => by
    simp only [List.getElem?_cons_zero, Option.some.injEq] at e
    subst e
    exact ⟨_, rfl, r⟩
  | _, _, i + 1, x, .cons _ t, e => by
    simp only [List.getElem?_cons_succ] at e ⊢
    exact awGet t e
theorem awGet2 {α β : Type} {F : α → β → Prop} {l : List α} {l2 : List β} {i : Nat} {y : β} (h : Paired F l l2) (e : l2[i]? = some y) : ∃ x, l[i]? = some x ∧ F x y := by
  have hi : i < l.length := by
    rw [awLen h]
    exact (List.getElem?_eq_some_iff.mp e).1
  obtain ⟨y2, e2, f⟩ := awGet h (List.getElem?_eq_getElem hi)
  rw [e] at e2
  obtain rfl := Option.some.inj e2
  exact ⟨_, List.getElem?_eq_getElem hi, f⟩
/-- deeds that stand in the heap as tuples -/
abbrev DsAt (H : Hp) : List Addr → List Deed → Prop := Paired fun r d => H r = some (.tup (dV d))
def RowAt (H : Hp) (R : Addr) (m : Int) (ds : List Deed) (o : Int) : Prop := ∃ D rs, H R = some (.tup [.int m, .ref D, .int o]) ∧ H D = some (.tup (rs.map V.ref)) ∧ DsAt H rs ds
structure DsOk (m : Int) (ds : List Deed) : Prop where
  each : ∀ (k : Nat) d, ds[k]? = some d → DeedOk (m + k) d
structure RowOk (m : Int) (ds : List Deed) (o : Int) : Prop where
  m1 : 1 ≤ m
  m3 : m ≤ 3
  len : ds.length ≤ 8
  deeds : DsOk m ds
  o0 : 0 ≤ o
  o1 : o < m + ds.length
/-- all tuples stand -/
def TupsStay (H H' : Hp) : Prop := ∀ b xs, H b = some (.tup xs) → H' b = some (.tup xs)
theorem Same.tups {H H' : Hp} (s : Same H H') : TupsStay H H' := fun b xs e => s b _ e
theorem Kp.tups {a c : Addr} {H H' : Hp} (k : Kp a c H H') (w : WL H a c) : TupsStay H H' := fun b xs e => k.tup w e
theorem TupsStay.trans {H H1 H2 : Hp} (a : TupsStay H H1) (b : TupsStay H1 H2) : TupsStay H H2 := fun c xs e => b c xs (a c xs e)
theorem tups_put {H : Hp} {l : Addr} {xs : List V} {o : HO} (h : H l = some (.lst xs)) : TupsStay H (upd H l o) := fun b ys e => by
  rw [upd_ne (ne_of e h (fun z => nomatch z))]
  exact e
theorem TupsStay.ds {H H' : Hp} (t : TupsStay H H') {rs : List Addr} {ds : List Deed} (h : DsAt H rs ds) : DsAt H' rs ds := awMap (fun r d e => t r _ e) h
theorem TupsStay.row {H H' : Hp} (t : TupsStay H H') {R : Addr} {m o : Int} {ds : List Deed} (h : RowAt H R m ds o) : RowAt H' R m ds o := by
  obtain ⟨D, rs, e1, e2, e3⟩ := h
  exact ⟨D, rs, t _ _ e1, t _ _ e2, t.ds e3⟩
theorem dsOk_snoc {m : Int} {ds : List Deed} {d : Deed} (h : DsOk m ds) (k : DeedOk (m + ds.length) d) : DsOk m (ds ++ [d]) := by
  constructor
  intro i d' e
  by_cases hi : i < ds.length
  · rw [List.getElem?_append_left hi] at e
    exact h.each i d' e
  · rw [List.getElem?_append_right (by omega)] at e
    obtain ⟨h1, h2⟩ := List.getElem?_eq_some_iff.mp e
    have h3 : i = ds.length := by simp only [List.length_cons, List.length_nil] at h1; omega
    subst h3
    simp at h2
    subst h2
    exact k
/-! ### data that is shown in few signs -/
structure Nice (b k : Nat) (d : PyData) : Prop where
  sh : d.showable = true
  lv : d.leavesShort 21 = true
  bk : d.bulk ≤ b
  dp : d.depth ≤ k
theorem Nice.fits {b k : Nat} {d : PyData} (h : Nice b k d) (hb : b ≤ 100000) : d.shown.length ≤ sizeLine := by
  have h1 := PyData.shown_le_bulk 21 (by decide) d h.lv
  have h2 := h.bk
  rw [sizeLine_eq]
  omega
theorem Nice.mono {b b2 k k2 : Nat} {d : PyData} (h : Nice b k d) (hb : b ≤ b2) (hk : k ≤ k2) : Nice b2 k2 d := ⟨h.sh, h.lv, Nat.le_trans h.bk hb, Nat.le_trans h.dp hk⟩
theorem nice_int {i : Int} (h : i.natAbs < 10 ^ 20) : Nice 0 0 (.int i) := by
  refine ⟨?_, ?_, ?_, ?_⟩
  · simp only [PyData.showable, decide_eq_true_eq]
    have : i.natAbs < 2 ^ 70 := Nat.lt_trans h (by decide)
    by_cases e : i.natAbs = 0
    · rw [e]; decide
    · have := (Nat.log2_lt e).mpr this
      omega
  · simp only [PyData.leavesShort, decide_eq_true_eq]
    have e := int_text_length_le10 (k := 20) (by decide) h
    simp only [PyData.shown]
    rw [PySem.ofString_length]
    exact e
  · simp only [PyData.bulk, Nat.le_refl]
  · simp only [PyData.depth, Nat.le_refl]
theorem nice_str {x : Str} {n : Nat} (h : x.cps.size ≤ n) (hx : (x.cps.toList.all fun c => decide (c < 16 ^ 8)) = true) : Nice n 0 (.str x) := by
  refine ⟨?_, ?_, ?_, ?_⟩
  · simp only [PyData.showable]
  · simp only [PyData.leavesShort]
    exact hx
  · simp only [PyData.bulk]
    exact h
  · simp only [PyData.depth, Nat.le_refl]
theorem nice_all {b k : Nat} : ∀ {xs : List PyData}, (∀ x ∈ xs, Nice b k x) → PyData.showableAll xs = true ∧ PyData.leavesShortAll 21 xs = true ∧ PyData.bulkAll xs ≤ xs.length * (b + 1) ∧ PyData.depthAll xs ≤ k
  | [], _ => ⟨by simp only [PyData.showableAll], by simp only [PyData.leavesShortAll], by simp only [PyData.bulkAll, Nat.zero_le], by simp only [PyData.depthAll, Nat.zero_le]⟩
  | x :: xs, h => by
    obtain ⟨h1, h2, h3, h4⟩ := nice_all fun y hy => h y (List.mem_cons_of_mem _ hy)
    obtain ⟨g1, g2, g3, g4⟩ := h x List.mem_cons_self
    refine ⟨by simp only [PyData.showableAll, g1, h1, Bool.and_self], by simp only [PyData.leavesShortAll, g2, h2, Bool.and_self], ?_, ?_⟩
    · simp only [PyData.bulkAll, List.length_cons, Nat.add_mul, Nat.one_mul]
      omega
    · simp only [PyData.depthAll]
      omega
theorem nice_tup {b k n : Nat} {xs : List PyData} (h : ∀ x ∈ xs, Nice b k x) (hn : xs.length * (b + 1) ≤ n) : Nice n (k + 1) (.tuple xs) := by
  obtain ⟨h1, h2, h3, h4⟩ := nice_all h
  exact ⟨by simpa only [PyData.showable] using h1, by simpa only [PyData.leavesShort] using h2, by simp only [PyData.bulk]; omega, by simp only [PyData.depth]; omega⟩
theorem nice_lst {b k n : Nat} {xs : List PyData} (h : ∀ x ∈ xs, Nice b k x) (hn : xs.length * (b + 1) ≤ n) : Nice n (k + 1) (.list xs) := by
  obtain ⟨h1, h2, h3, h4⟩ := nice_all h
  exact ⟨by simpa only [PyData.showable] using h1, by simpa only [PyData.leavesShort] using h2, by simp only [PyData.bulk]; omega, by simp only [PyData.depth]; omega⟩
def deedD (d : Deed) : PyData := .tuple (.str d.1 :: d.2.map PyData.int)
def rowD (m : Int) (ds : List Deed) (o : Int) : PyData := .tuple [.int m, .tuple (ds.map deedD), .int o]
theorem fw_short : ∀ p ∈ fwL, p.1.cps.size ≤ 5 ∧ (p.1.cps.toList.all fun c => decide (c < 16 ^ 8)) = true ∧ p.2 ≤ 2 := by decide +kernel
theorem nice_deed {m : Int} {d : Deed} (h : DeedOk m d) (hm : m ≤ 100) : Nice 18 1 (deedD d) := by
  obtain ⟨h1, h2, h3⟩ := fw_short _ h.word
  refine nice_tup (b := 5) (k := 0) (fun x hx => ?_) ?_
  · rcases List.mem_cons.mp hx with rfl | hx
    · exact nice_str h1 h2
    · obtain ⟨i, hi, rfl⟩ := List.mem_map.mp hx
      obtain ⟨i0, i1⟩ := h.ahead i hi
      exact (nice_int (by omega)).mono (by decide) (by decide)
  · rw [List.length_cons, List.length_map]
    have : (d.2.length : Int) ≤ 2 := h3
    omega
theorem nice_row {m o : Int} {ds : List Deed} (h : RowOk m ds o) : Nice 459 3 (rowD m ds o) := by
  have hm := h.m1
  have hm3 := h.m3
  have hl := h.len
  have ho := h.o0
  have ho1 := h.o1
  refine nice_tup (b := 152) (k := 2) (fun x hx => ?_) (by simp only [List.length_cons, List.length_nil]; decide)
  simp only [List.mem_cons, List.not_mem_nil, or_false] at hx
  rcases hx with rfl | rfl | rfl
  · exact (nice_int (by omega)).mono (by decide) (by decide)
  · refine nice_tup (b := 18) (k := 1) (fun x hx => ?_) ?_
    · obtain ⟨d, hd, rfl⟩ := List.mem_map.mp hx
      obtain ⟨k, hk⟩ := List.mem_iff_getElem?.mp hd
      have hk1 := (List.getElem?_eq_some_iff.mp hk).1
      exact nice_deed (h.deeds.each k d hk) (by omega)
    · rw [List.length_map]
      omega
  · exact (nice_int (by omega)).mono (by decide) (by decide)
/-! ### what the row reads -/
section
variable {X : Cx}
theorem rz_ints (H : Hp) : ∀ l : List Int, Paired (Rz X H) (l.map V.int) (l.map PyData.int)
  | [] => .nil
  | i :: l => .cons (Rz.int H i) (rz_ints H l)
theorem rz_deed {H : Hp} {r : Addr} {d : Deed} (h : H r = some (.tup (dV d))) : Rz X H (.ref r) (deedD d) := Rz.tup (SqT.of h) (.cons (Rz.str H _) (rz_ints H _))
theorem rz_deeds {H : Hp} : ∀ {rs : List Addr} {ds : List Deed}, DsAt H rs ds → Paired (Rz X H) (rs.map V.ref) (ds.map deedD)
  | _, _, .nil => .nil
  | _, _, .cons h t => .cons (rz_deed h) (rz_deeds t)
theorem rz_row {H : Hp} {R : Addr} {m o : Int} {ds : List Deed} (h : RowAt H R m ds o) : Rz X H (.ref R) (rowD m ds o) := by
  obtain ⟨D, rs, e1, e2, e3⟩ := h
  exact Rz.tup (SqT.of e1) (.cons (Rz.int H m) (.cons (Rz.tup (SqT.of e2) (rz_deeds e3)) (.cons (Rz.int H o) .nil)))
/-- a dict of texts and ints -/
abbrev siK (es : List (Str × Int)) : List (Key × V) := es.map fun p => (Sum.inr p.1, .int p.2)
theorem si_reads {prog : Program} {w : World} {h : Heap} : ∀ (es : List (Str × Int)) (vs : List (Key × Value)) (en : List DictEntry), KV (siK es) vs → Pairs (mixKind prog w) en vs →
    ReadsAll h (en.map (·.key)) ((es.map fun p => (PyData.str p.1, PyData.int p.2)).map (·.1)) [] ∧ ReadsAll h (en.map (·.val)) ((es.map fun p => (PyData.str p.1, PyData.int p.2)).map (·.2)) []
  | [], _, _, .nil, .nil => ⟨.nil, .nil⟩
  | (x, i) :: es, _, _, .cons hh t, .cons hk hv hp => by
    obtain ⟨h1, h2⟩ := si_reads es _ _ t hp
    obtain ⟨k1, t1, e1⟩ := hh
    rw [← k1] at hk
    obtain ⟨t2, e2⟩ := Value.isStrOf_shape (x := x) hk
    refine ⟨?_, ?_⟩
    · simp only [List.map_cons]
      rw [e2]
      exact ReadsAll.cons (as := []) (Reads.str x t2) h1
    · simp only [List.map_cons]
      rw [hv, e1]
      exact ReadsAll.cons (as := []) (Reads.int i t1) h2
theorem rz_dict {H : Hp} {C : Addr} {es : List (Str × Int)} (h : H C = some (.dK (siK es))) : Rz X H (.ref C) (.dict (es.map fun p => (PyData.str p.1, PyData.int p.2))) := by
  intro pins σ s u I r
  obtain rfl : u = Value.ref C := r
  obtain ⟨_, hs, vs, hkv, o, en, ep, e1, e2, e3, e4, e5, e6⟩ := I.hok C _ h
  obtain ⟨r1, r2⟩ := si_reads (prog := X.prog) (w := X.w) (h := s.heap) es vs _ hkv e5
  refine ⟨_, Reads.dict e1 e2.1 e3 r1 r2, ?_⟩
  intro z
  simp only [List.append_nil, List.mem_cons, List.not_mem_nil, or_false] at z
  rw [← z] at hs
  simp at hs
end
theorem nice_dict {n : Nat} : ∀ {es : List (Str × Int)}, (∀ p ∈ es, p.1.cps.size ≤ 5 ∧ (p.1.cps.toList.all fun c => decide (c < 16 ^ 8)) = true ∧ p.2.natAbs < 10 ^ 20) → es.length * 7 ≤ n →
    Nice n 1 (.dict (es.map fun p => (PyData.str p.1, PyData.int p.2))) := by
  intro es h hn
  have key : ∀ es : List (Str × Int), (∀ p ∈ es, p.1.cps.size ≤ 5 ∧ (p.1.cps.toList.all fun c => decide (c < 16 ^ 8)) = true ∧ p.2.natAbs < 10 ^ 20) →
      PyData.showableKv (es.map fun p => (PyData.str p.1, PyData.int p.2)) = true ∧ PyData.leavesShortKv 21 (es.map fun p => (PyData.str p.1, PyData.int p.2)) = true ∧ PyData.bulkKv (es.map fun p => (PyData.str p.1, PyData.int p.2)) ≤ es.length * 7 ∧ PyData.depthKv (es.map fun p => (PyData.str p.1, PyData.int p.2)) = 0 := by
    intro es
    induction es with
    | nil => intro _; exact ⟨by simp only [List.map_nil, PyData.showableKv], by simp only [List.map_nil, PyData.leavesShortKv], by simp only [List.map_nil, PyData.bulkKv, Nat.zero_le], by simp only [List.map_nil, PyData.depthKv]⟩
    | cons p es ih =>
      intro h
      obtain ⟨h1, h2, h3, h4⟩ := ih fun q hq => h q (List.mem_cons_of_mem _ hq)
      obtain ⟨a, b, c⟩ := h p List.mem_cons_self
      obtain ⟨i1, i2, i3, i4⟩ := nice_int c
      obtain ⟨s1, s2, s3, s4⟩ := nice_str a b
      refine ⟨by simp only [List.map_cons, PyData.showableKv, i1, s1, h1, Bool.and_self], by simp only [List.map_cons, PyData.leavesShortKv, i2, s2, h2, Bool.and_self], ?_, ?_⟩
      · simp only [List.map_cons, PyData.bulkKv, List.length_cons]
        omega
      · simp only [List.map_cons, PyData.depthKv]
        omega
  obtain ⟨h1, h2, h3, h4⟩ := key es h
  exact ⟨by simpa only [PyData.showable] using h1, by simpa only [PyData.leavesShort] using h2, by simp only [PyData.bulk]; omega, by simp only [PyData.depth]; omega⟩
/-! ### values of rows -/
theorem strEq {x y : Str} (h : decide (V.str x = V.str y) = true) : x = y := V.str.inj (of_decide_eq_true h)
theorem strNe {x y : Str} (h : ¬ decide (V.str x = V.str y) = true) : ¬ x = y := fun e => h (decide_eq_true (congrArg V.str e))
def argAt (d : Deed) (told : List Int) (k : Nat) : Int := told.getD (d.2.getD k 0).toNat 0
def dvalue (x : Str) (A B size : Int) : Int :=
  if x = "none" then 0 else if x = "one" then 1 else if x = "all" then size - 1 else if x = "not" then size - 1 - A else if x = "neg" then -A else if x = "twice" then A + A
  else if x = "and" then Builtin.bitAnd A B else if x = "or" then Builtin.bitOr A B else if x = "xor" then Builtin.bitXor A B else if x = "add" then A + B else A - B
def dval (size : Int) (d : Deed) (told : List Int) : Int := dvalue d.1 (argAt d told 0) (argAt d told 1) size % size
def vals (size : Int) : List Deed → List Int → List Int
  | [], told => told
  | d :: ds, told => vals size ds (told ++ [dval size d told])
theorem vals_append (size : Int) : ∀ (l1 l2 : List Deed) (t : List Int), vals size (l1 ++ l2) t = vals size l2 (vals size l1 t)
  | [], _, _ => rfl
  | d :: l1, l2, t => vals_append size l1 l2 (t ++ [dval size d t])
theorem vals_len {size : Int} : ∀ (ds : List Deed) (t : List Int), (vals size ds t).length = t.length + ds.length
  | [], _ => rfl
  | d :: ds, t => by
    show (vals size ds (t ++ [dval size d t])).length = _
    rw [vals_len ds, List.length_append, List.length_cons, List.length_cons, List.length_nil]
    omega
theorem vals_next {size : Int} {ds : List Deed} {i : Nat} {d : Deed} {t : List Int} (h : ds[i]? = some d) : vals size (ds.take (i + 1)) t = vals size (ds.take i) t ++ [dval size d (vals size (ds.take i) t)] := by
  rw [List.take_add_one, h, vals_append]
  rfl
theorem atI_ints {l : List Int} {o : Int} (h0 : 0 ≤ o) (h1 : o < l.length) : atI (l.map V.int) o = some (.int (l.getD o.toNat 0)) := by
  obtain ⟨k, rfl⟩ := Int.eq_ofNat_of_zero_le h0
  have hk : k < l.length := by omega
  apply atI_nat
  rw [List.getElem?_map, List.getElem?_eq_getElem hk, Int.toNat_natCast, List.getD_eq_getElem?_getD, List.getElem?_eq_getElem hk]
  rfl
theorem fw_one : ∀ p ∈ fwL, ¬ p.1 = "none" → ¬ p.1 = "one" → ¬ p.1 = "all" → 1 ≤ p.2 := by decide +kernel
theorem fw_two' : ∀ p ∈ fwL, (decide (p.1 ∈ (["none", "one", "all", "not", "neg", "twice"] : List Str)) || decide (2 ≤ p.2)) = true := by decide +kernel
theorem fw_two (p : Str × Int) (h : p ∈ fwL) (n1 : ¬ p.1 = "none") (n2 : ¬ p.1 = "one") (n3 : ¬ p.1 = "all") (n4 : ¬ p.1 = "not") (n5 : ¬ p.1 = "neg") (n6 : ¬ p.1 = "twice") : 2 ≤ p.2 := by
  have e := fw_two' p h
  rw [Bool.or_eq_true] at e
  rcases e with e | e
  · have e2 := of_decide_eq_true e
    simp only [List.mem_cons, List.not_mem_nil, or_false] at e2
    rcases e2 with e2 | e2 | e2 | e2 | e2 | e2
    · exact absurd e2 n1
    · exact absurd e2 n2
    · exact absurd e2 n3
    · exact absurd e2 n4
    · exact absurd e2 n5
    · exact absurd e2 n6
  · exact of_decide_eq_true e
theorem arg_of {d : Deed} {told : List Int} (h : DeedOk told.length d) {k : Nat} (hk : k < d.2.length) : ∃ i, d.2[k]? = some i ∧ 0 ≤ i ∧ atI (told.map V.int) i = some (.int (argAt d told k)) := by
  have hg := List.getElem?_eq_getElem hk
  obtain ⟨i0, i1⟩ := h.ahead _ (List.getElem_mem hk)
  refine ⟨d.2[k], hg, i0, ?_⟩
  rw [atI_ints i0 i1]
  unfold argAt
  rw [List.getD_eq_getElem?_getD (l := d.2), hg]
  rfl
theorem arg1 {d : Deed} {told : List Int} (h : DeedOk told.length d) (n1 : ¬ d.1 = "none") (n2 : ¬ d.1 = "one") (n3 : ¬ d.1 = "all") : ∃ i, d.2[0]? = some i ∧ 0 ≤ i ∧ atI (told.map V.int) i = some (.int (argAt d told 0)) :=
  arg_of h (by have := fw_one _ h.word n1 n2 n3; show 0 < d.2.length; have e : (1 : Int) ≤ (d.2.length : Int) := this; omega)
theorem arg2 {d : Deed} {told : List Int} (h : DeedOk told.length d) (n1 : ¬ d.1 = "none") (n2 : ¬ d.1 = "one") (n3 : ¬ d.1 = "all") (n4 : ¬ d.1 = "not") (n5 : ¬ d.1 = "neg") (n6 : ¬ d.1 = "twice") :
    ∃ i, d.2[1]? = some i ∧ 0 ≤ i ∧ atI (told.map V.int) i = some (.int (argAt d told 1)) :=
  arg_of h (by have := fw_two _ h.word n1 n2 n3 n4 n5 n6; show 1 < d.2.length; have e : (2 : Int) ≤ (d.2.length : Int) := this; omega)
/-! ### the low bits of values -/
theorem pw_cast (n : Nat) : (2 : Int) ^ n = ((2 ^ n : Nat) : Int) := (PySem.W.kbt_cast n).symm
theorem pw_le {n k : Nat} (h : n ≤ k) : (2 : Int) ^ n ≤ 2 ^ k := by
  rw [pw_cast, pw_cast]
  exact Int.ofNat_le.mpr (Nat.pow_le_pow_right (by decide) h)
theorem pw_pos (n : Nat) : (0 : Int) < 2 ^ n := Int.pow_pos (by decide)
theorem castMod (a n : Nat) : ((a : Int) % 2 ^ n) = ((a % 2 ^ n : Nat) : Int) := by rw [pw_cast, Int.natCast_emod]
theorem low_and {A B : Int} (n : Nat) (ha : 0 ≤ A) (hb : 0 ≤ B) : Builtin.bitAnd (A % 2 ^ n) (B % 2 ^ n) % 2 ^ n = Builtin.bitAnd A B % 2 ^ n := by
  obtain ⟨a, rfl⟩ := Int.eq_ofNat_of_zero_le ha
  obtain ⟨b, rfl⟩ := Int.eq_ofNat_of_zero_le hb
  rw [castMod, castMod, bitAnd_pp (Int.natCast_nonneg _) (Int.natCast_nonneg _), bitAnd_pp (Int.natCast_nonneg _) (Int.natCast_nonneg _), castMod, castMod]
  simp only [Int.toNat_natCast]
  rw [Nat.and_mod_two_pow, Nat.and_mod_two_pow, Nat.mod_mod, Nat.mod_mod]
theorem low_or {A B : Int} (n : Nat) (ha : 0 ≤ A) (hb : 0 ≤ B) : Builtin.bitOr (A % 2 ^ n) (B % 2 ^ n) % 2 ^ n = Builtin.bitOr A B % 2 ^ n := by
  obtain ⟨a, rfl⟩ := Int.eq_ofNat_of_zero_le ha
  obtain ⟨b, rfl⟩ := Int.eq_ofNat_of_zero_le hb
  rw [castMod, castMod, bitOr_nn (Int.natCast_nonneg _) (Int.natCast_nonneg _), bitOr_nn (Int.natCast_nonneg _) (Int.natCast_nonneg _), castMod, castMod]
  simp only [Int.toNat_natCast]
  rw [Nat.or_mod_two_pow, Nat.or_mod_two_pow, Nat.mod_mod, Nat.mod_mod]
theorem low_xor {A B : Int} (n : Nat) (ha : 0 ≤ A) (hb : 0 ≤ B) : Builtin.bitXor (A % 2 ^ n) (B % 2 ^ n) % 2 ^ n = Builtin.bitXor A B % 2 ^ n := by
  obtain ⟨a, rfl⟩ := Int.eq_ofNat_of_zero_le ha
  obtain ⟨b, rfl⟩ := Int.eq_ofNat_of_zero_le hb
  rw [castMod, castMod, Bits.bitXor_pp (Int.natCast_nonneg _) (Int.natCast_nonneg _), Bits.bitXor_pp (Int.natCast_nonneg _) (Int.natCast_nonneg _), castMod, castMod]
  simp only [Int.toNat_natCast]
  rw [Nat.xor_mod_two_pow, Nat.xor_mod_two_pow, Nat.mod_mod, Nat.mod_mod]
theorem pw_dvd {n k : Nat} (h : n ≤ k) : (2 : Int) ^ n ∣ 2 ^ k := ⟨2 ^ (k - n), by rw [← Int.pow_add]; congr 1; omega⟩
theorem emod_same {a b m : Int} (k : Int) (h : a - b = m * k) : a % m = b % m := Int.emod_eq_emod_iff_emod_sub_eq_zero.mpr (by rw [h]; exact Int.mul_emod_right m k)
theorem dvalue_low' {x : Str} {N c qa qb ra rb A B : Int} (ea : N * qa + ra = A) (eb : N * qb + rb = B) (l1 : Builtin.bitAnd ra rb % N = Builtin.bitAnd A B % N) (l2 : Builtin.bitOr ra rb % N = Builtin.bitOr A B % N)
    (l3 : Builtin.bitXor ra rb % N = Builtin.bitXor A B % N) : dvalue x ra rb N % N = dvalue x A B (N * c) % N := by
  unfold dvalue
  by_cases h1 : x = "none"
  · rw [if_pos h1, if_pos h1]
  rw [if_neg h1, if_neg h1]
  by_cases h2 : x = "one"
  · rw [if_pos h2, if_pos h2]
  rw [if_neg h2, if_neg h2]
  by_cases h3 : x = "all"
  · rw [if_pos h3, if_pos h3]
    exact emod_same (1 - c) (by rw [Int.mul_sub, Int.mul_one]; omega)
  rw [if_neg h3, if_neg h3]
  by_cases h4 : x = "not"
  · rw [if_pos h4, if_pos h4]
    exact emod_same (1 - c + qa) (by rw [Int.mul_add, Int.mul_sub, Int.mul_one]; omega)
  rw [if_neg h4, if_neg h4]
  by_cases h5 : x = "neg"
  · rw [if_pos h5, if_pos h5]
    exact emod_same qa (by omega)
  rw [if_neg h5, if_neg h5]
  by_cases h6 : x = "twice"
  · rw [if_pos h6, if_pos h6]
    exact emod_same (-qa - qa) (by rw [Int.mul_sub, Int.mul_neg]; omega)
  rw [if_neg h6, if_neg h6]
  by_cases h7 : x = "and"
  · rw [if_pos h7, if_pos h7]
    exact l1
  rw [if_neg h7, if_neg h7]
  by_cases h8 : x = "or"
  · rw [if_pos h8, if_pos h8]
    exact l2
  rw [if_neg h8, if_neg h8]
  by_cases h9 : x = "xor"
  · rw [if_pos h9, if_pos h9]
    exact l3
  rw [if_neg h9, if_neg h9]
  by_cases h10 : x = "add"
  · rw [if_pos h10, if_pos h10]
    exact emod_same (-qa - qb) (by rw [Int.mul_sub, Int.mul_neg]; omega)
  rw [if_neg h10, if_neg h10]
  exact emod_same (qb - qa) (by rw [Int.mul_sub]; omega)
theorem dvalue_low {x : Str} {A B : Int} {n k : Nat} (hA : 0 ≤ A) (hB : 0 ≤ B) (h : n ≤ k) : dvalue x (A % 2 ^ n) (B % 2 ^ n) (2 ^ n) % 2 ^ n = dvalue x A B (2 ^ k) % 2 ^ n := by
  obtain ⟨c, hc⟩ := pw_dvd h
  rw [hc]
  exact dvalue_low' (Int.mul_ediv_add_emod A (2 ^ n)) (Int.mul_ediv_add_emod B (2 ^ n)) (low_and n hA hB) (low_or n hA hB) (low_xor n hA hB)
theorem getD_low (N : Int) (l : List Int) (i : Nat) : (l.map (· % N)).getD i 0 = l.getD i 0 % N := by
  rw [List.getD_eq_getElem?_getD, List.getD_eq_getElem?_getD, List.getElem?_map]
  cases l[i]? with
  | none => exact (Int.zero_emod N).symm
  | some y => rfl
theorem arg_nn {told : List Int} (h : ∀ x ∈ told, 0 ≤ x) (d : Deed) (j : Nat) : 0 ≤ argAt d told j := by
  unfold argAt
  rw [List.getD_eq_getElem?_getD]
  cases e : told[(d.2.getD j 0).toNat]? with
  | none => exact Int.le_refl 0
  | some y => exact h y (List.mem_of_getElem? e)
theorem dval_low {d : Deed} {told : List Int} {n k : Nat} (h : ∀ x ∈ told, 0 ≤ x) (hk : n ≤ k) : dval (2 ^ n) d (told.map (· % 2 ^ n)) = dval (2 ^ k) d told % 2 ^ n := by
  unfold dval
  have e : ∀ j, argAt d (told.map (· % 2 ^ n)) j = argAt d told j % 2 ^ n := fun j => getD_low _ _ _
  rw [e, e, dvalue_low (arg_nn h d 0) (arg_nn h d 1) hk, Int.emod_emod_of_dvd _ (pw_dvd hk)]
theorem vals_low {n k : Nat} (hk : n ≤ k) : ∀ (ds : List Deed) (told : List Int), (∀ x ∈ told, 0 ≤ x) → vals (2 ^ n) ds (told.map (· % 2 ^ n)) = (vals (2 ^ k) ds told).map (· % 2 ^ n)
  | [], _, _ => rfl
  | d :: ds, told, h => by
    show vals (2 ^ n) ds (told.map (· % 2 ^ n) ++ [dval (2 ^ n) d (told.map (· % 2 ^ n))]) = (vals (2 ^ k) ds (told ++ [dval (2 ^ k) d told])).map (· % 2 ^ n)
    rw [dval_low h hk, ← vals_low hk ds, List.map_append]
    · rfl
    · intro x hx
      rcases List.mem_append.mp hx with hx | hx
      · exact h x hx
      · rw [List.mem_singleton.mp hx]
        exact Int.emod_nonneg _ (by have := pw_pos k; omega)
theorem vals_range {size : Int} (hs : 0 < size) : ∀ (ds : List Deed) (told : List Int), (∀ x ∈ told, 0 ≤ x ∧ x < size) → ∀ x ∈ vals size ds told, 0 ≤ x ∧ x < size
  | [], _, h => h
  | d :: ds, told, h => by
    refine vals_range hs ds (told ++ [dval size d told]) fun x hx => ?_
    rcases List.mem_append.mp hx with hx | hx
    · exact h x hx
    · rw [List.mem_singleton.mp hx]
      exact ⟨Int.emod_nonneg _ (by omega), Int.emod_lt_of_pos _ hs⟩
/-! ### lists of ints compared -/
theorem eqv_ints : ∀ l : List Int, PyData.eqv (.list (l.map PyData.int)) (.list (l.map PyData.int)) = true := fun l => SeqAt.eqv_refl _ (SeqAt.canLay_of_shaped (shaped_ints l))
theorem dget_at {H : Hp} {a : Addr} {kvs : List (Key × V)} {k : Key} {v : V} (e : H a = some (.dK kvs)) (h : valV kvs k = some v) : DGet H a (kV k) (some v) := h ▸ DGet.k e
theorem fw_cases {x : Str} {n : Nat} (h : (x, (n : Int)) ∈ fwL) : (n = 0 ∧ (x = "none" ∨ x = "one" ∨ x = "all")) ∨ (n = 1 ∧ (x = "not" ∨ x = "neg" ∨ x = "twice")) ∨ (n = 2 ∧ (x = "and" ∨ x = "or" ∨ x = "xor" ∨ x = "add" ∨ x = "sub")) := by
  unfold fwL at h
  simp only [List.mem_cons, List.not_mem_nil, or_false, Prod.mk.injEq] at h
  rcases h with h | h | h | h | h | h | h | h | h | h | h
  · exact .inl ⟨by omega, .inl h.1⟩
  · exact .inl ⟨by omega, .inr (.inl h.1)⟩
  · exact .inl ⟨by omega, .inr (.inr h.1)⟩
  · exact .inr (.inl ⟨by omega, .inl h.1⟩)
  · exact .inr (.inl ⟨by omega, .inr (.inl h.1)⟩)
  · exact .inr (.inl ⟨by omega, .inr (.inr h.1)⟩)
  · exact .inr (.inr ⟨by omega, .inl h.1⟩)
  · exact .inr (.inr ⟨by omega, .inr (.inl h.1)⟩)
  · exact .inr (.inr ⟨by omega, .inr (.inr (.inl h.1))⟩)
  · exact .inr (.inr ⟨by omega, .inr (.inr (.inr (.inl h.1)))⟩)
  · exact .inr (.inr ⟨by omega, .inr (.inr (.inr (.inr h.1)))⟩)
theorem and_lt {A B : Int} {n : Nat} (a0 : 0 ≤ A) (a1 : A < 2 ^ n) (b0 : 0 ≤ B) : Builtin.bitAnd A B % 2 ^ n = Builtin.bitAnd A B := by
  obtain ⟨a, rfl⟩ := Int.eq_ofNat_of_zero_le a0
  obtain ⟨b, rfl⟩ := Int.eq_ofNat_of_zero_le b0
  rw [bitAnd_pp (Int.natCast_nonneg _) (Int.natCast_nonneg _), castMod]
  rw [pw_cast] at a1
  simp only [Int.toNat_natCast]
  rw [Nat.mod_eq_of_lt (Nat.lt_of_le_of_lt Nat.and_le_left (by omega))]
theorem or_lt {A B : Int} {n : Nat} (a0 : 0 ≤ A) (a1 : A < 2 ^ n) (b0 : 0 ≤ B) (b1 : B < 2 ^ n) : Builtin.bitOr A B % 2 ^ n = Builtin.bitOr A B := by
  obtain ⟨a, rfl⟩ := Int.eq_ofNat_of_zero_le a0
  obtain ⟨b, rfl⟩ := Int.eq_ofNat_of_zero_le b0
  rw [bitOr_nn (Int.natCast_nonneg _) (Int.natCast_nonneg _), castMod]
  rw [pw_cast] at a1 b1
  simp only [Int.toNat_natCast]
  rw [Nat.mod_eq_of_lt (Nat.or_lt_two_pow (by omega) (by omega))]
theorem xor_lt {A B : Int} {n : Nat} (a0 : 0 ≤ A) (a1 : A < 2 ^ n) (b0 : 0 ≤ B) (b1 : B < 2 ^ n) : Builtin.bitXor A B % 2 ^ n = Builtin.bitXor A B := by
  obtain ⟨a, rfl⟩ := Int.eq_ofNat_of_zero_le a0
  obtain ⟨b, rfl⟩ := Int.eq_ofNat_of_zero_le b0
  rw [Bits.bitXor_pp (Int.natCast_nonneg _) (Int.natCast_nonneg _), castMod]
  rw [pw_cast] at a1 b1
  simp only [Int.toNat_natCast]
  rw [Nat.mod_eq_of_lt (Nat.xor_lt_two_pow (by omega) (by omega))]
/-! ### all but the first -/
theorem sIx_one (x : V) (xs : List V) : HT.sIx (x :: xs).length 0 (some 1) = 1 := by
  have e : HT.sIx (x :: xs).length 0 (some 1) = min 1 (x :: xs).length := HT.sIx_nat (x :: xs).length 0 1
  rw [e, List.length_cons]
  omega
theorem cutTail (x : V) (xs : List V) : cutV (x :: xs) (some 1) none = xs := by
  have h2 : HT.sIx (x :: xs).length (x :: xs).length none = (x :: xs).length := HT.sIx_none _ _
  unfold cutV
  rw [sIx_one, h2]
  simp
theorem notWhole (x : V) (xs : List V) : ¬ (HT.sIx (x :: xs).length 0 (some 1) = 0 ∧ HT.sIx (x :: xs).length (x :: xs).length none = (x :: xs).length) := by
  rw [sIx_one]
  exact fun h => absurd h.1 (by decide)
theorem intEq {x y : Int} (h : decide (V.int x = V.int y) = true) : x = y := V.int.inj (of_decide_eq_true h)
theorem intNe {x y : Int} (h : ¬ decide (V.int x = V.int y) = true) : ¬ x = y := fun e => h (decide_eq_true (congrArg V.int e))
/-! ### t + u of two tuples at hand, whatever they hold -/
section
variable {X : Cx}
def rCatZ : R2 := fun x y H Q => ∃ a b xs ys, x = .ref a ∧ y = .ref b ∧ H a = some (.tup xs) ∧ H b = some (.tup ys) ∧ xs.length + ys.length ≤ sizeLine ∧ ∀ p H2, Same H H2 → H2 p = some (.tup (xs ++ ys)) → Q (.ref p) H2
theorem op_catZ : OpR X (binaryOp .Add) rCatZ := by
  intro pins s σ H x y v u Q I rx ry h
  obtain ⟨a, b, xs, ys, rfl, rfl, ha, hb, hz, q⟩ := h
  refine op_catA pins s σ H _ _ v u Q I rx ry ⟨a, b, xs, ys, rfl, rfl, SqT.of ha, SqT.of hb, hz, fun e => ?_, fun _ e => ?_, fun _ _ p hp => ?_⟩
  · subst e
    exact q b H (Same.refl H) hb
  · subst e
    exact q a H (Same.refl H) (by rw [List.append_nil]; exact ha)
  · exact q p _ (same_new hp) upd_same
end
theorem awAppend {α β : Type} {F : α → β → Prop} : ∀ {l k : List α} {l2 k2 : List β}, Paired F l l2 → Paired F k k2 → Paired F (l ++ k) (l2 ++ k2)
  | _, _, _, _, .nil, h => h
  | _, _, _, _, .cons r t, h => .cons r (awAppend t h)
theorem dsOk_append {m t : Int} {ds es : List Deed} (h : DsOk m ds) (k : DsOk t es) (e : t = m + ds.length) : DsOk m (ds ++ es) := by
  constructor
  intro i d hi
  by_cases hl : i < ds.length
  · rw [List.getElem?_append_left hl] at hi
    exact h.each i d hi
  · rw [List.getElem?_append_right (by omega)] at hi
    have := k.each _ d hi
    rw [e] at this
    have e2 : m + (ds.length : Int) + ((i - ds.length : Nat) : Int) = m + i := by omega
    rw [e2] at this
    exact this
/-- all but one stands as it stood -/
def But (f : Addr) (H H2 : Hp) : Prop := ∀ b o, b ≠ f → H b = some o → H2 b = some o
theorem But.trans {f : Addr} {H H1 H2 : Hp} (a : But f H H1) (b : But f H1 H2) : But f H H2 := fun c o n e => b c o n (a c o n e)
theorem But.same {f : Addr} {H H2 : Hp} (s : Same H H2) : But f H H2 := fun b o _ e => s b o e
theorem But.put {f : Addr} {H : Hp} {o : HO} : But f H (upd H f o) := fun b u n e => by
  rw [upd_ne n]
  exact e
theorem But.tups {f : Addr} {H H2 : Hp} {xs : List V} (h : But f H H2) (e : H f = some (.lst xs)) : TupsStay H H2 := fun b ys z => h b _ (ne_of z e (fun q => nomatch q)) z
/-! ### the tape -/
def TP (H : Hp) (a : Addr) : Prop := ∃ x y : Int, H a = some (.lst [.int x, .int y])
theorem TP.same {H H2 : Hp} {a : Addr} (h : TP H a) (s : Same H H2) : TP H2 a := by
  obtain ⟨x, y, e⟩ := h
  exact ⟨x, y, s _ _ e⟩
theorem TP.ne_new {H : Hp} {a p : Addr} (h : TP H a) (e : H p = none) : p ≠ a := by
  obtain ⟨x, y, e1⟩ := h
  exact (ne_of_none e1 e).symm
theorem TP.upd {H : Hp} {a p : Addr} {o : HO} (h : TP H a) (n : p ≠ a) : TP (upd H p o) a := by
  obtain ⟨x, y, e1⟩ := h
  exact ⟨x, y, by rw [upd_ne n.symm]; exact e1⟩
theorem But.tape {a : Addr} {H H2 : Hp} (h : But a H H2) (t : TP H a) : TupsStay H H2 := by
  obtain ⟨x, y, e⟩ := t
  exact h.tups e
theorem But.refl (a : Addr) (H : Hp) : But a H H := fun _ _ _ e => e
theorem atI_in {α : Type} {l : List α} {i : Int} (h0 : 0 ≤ i) (h1 : i < l.length) : ∃ v, atI l i = some v ∧ v ∈ l := by
  obtain ⟨k, rfl⟩ := Int.eq_ofNat_of_zero_le h0
  have hk : k < l.length := by omega
  exact ⟨l[k], atI_nat (List.getElem?_eq_getElem hk), List.getElem_mem hk⟩
/-! ### texts in written tuples -/
theorem inS (x : Str) : ∀ l : List Str, inV (.str x) (l.map V.str) = decide (x ∈ l)
  | [] => rfl
  | y :: l => by
    have ih := inS x l
    show (eqV (.str y) (.str x) || inV (.str x) (l.map V.str)) = _
    rw [ih]
    by_cases h : x = y
    · subst h
      simp [eqV]
    · have h2 : ¬ y = x := fun e => h e.symm
      simp [eqV, h, h2]
def tw12 : List Str := ["add", "sub", "and", "xor", "or", "not", "twice", "neg", "all", "one", "none", "add"]
def twC : List Str := ["add", "sub", "twice", "neg", "one"]
theorem tw_zero : ∀ x ∈ (["all", "one", "none"] : List Str), (x, (0 : Int)) ∈ fwL := by decide +kernel
theorem tw_one : ∀ x ∈ (["not", "twice", "neg"] : List Str), (x, (1 : Int)) ∈ fwL := by decide +kernel
theorem tw_two : ∀ x ∈ tw12, x ∈ (["all", "one", "none"] : List Str) ∨ x ∈ (["not", "twice", "neg"] : List Str) ∨ (x, (2 : Int)) ∈ fwL := by decide +kernel
theorem tw_four : ∀ x ∈ (["and", "or", "xor", "not"] : List Str), x ∈ tw12 := by decide +kernel
theorem mem_strs {v : V} {l : List Str} (h : v ∈ l.map V.str) : ∃ x, x ∈ l ∧ v = .str x := by
  obtain ⟨x, hx, e⟩ := List.mem_map.mp h
  exact ⟨x, hx, e.symm⟩
/-! ### bits and carries of rows -/
def fcD (d : Deed) : Int := if d.1 ∈ (["neg", "one"] : List Str) then 1 else 0
def dbit (x : Str) (a b c : Int) : Int :=
  if x = "none" then 0 else if x = "all" then 1 else if x = "one" then c else if x = "twice" then c else if x = "not" then 1 - a else if x = "neg" then Builtin.bitXor (1 - a) c
  else if x = "and" then Builtin.bitAnd a b else if x = "or" then Builtin.bitOr a b else if x = "xor" then Builtin.bitXor a b else Builtin.bitXor (Builtin.bitXor a b) c
def dcar (x : Str) (a b c : Int) : Int :=
  if x = "neg" then Builtin.bitAnd (1 - a) c else if x = "twice" then a else if x = "add" then (a + b + c) / 2 else if x = "sub" then (1 - a + b + c) / 2 else 0
def dbitAt (d : Deed) (c : Int) (told : List Int) : Int := dbit d.1 (argAt d told 0) (argAt d told 1) c
def dcarAt (d : Deed) (c : Int) (told : List Int) : Int := dcar d.1 (argAt d told 0) (argAt d told 1) c
def bts : List Deed → List Int → List Int → List Int
  | d :: ds, c :: cs, told => bts ds cs (told ++ [dbitAt d c told])
  | _, _, told => told
def nxt (ds : List Deed) (cs told : List Int) : List Int := List.zipWith (fun d c => dcarAt d c told) ds cs
abbrev Bit (x : Int) : Prop := x = 0 ∨ x = 1
theorem bit0 : Bit 0 := .inl rfl
theorem bit1 : Bit 1 := .inr rfl
theorem dbit_bit {x : Str} {a b c : Int} (ha : Bit a) (hb : Bit b) (hc : Bit c) : Bit (dbit x a b c) := by
  have n1 : Bit (1 - a) := by rcases ha with rfl | rfl <;> simp [Bit]
  have hx : ∀ {p q : Int}, Bit p → Bit q → Bit (Builtin.bitXor p q) := fun hp hq => by
    rcases hp with rfl | rfl <;> rcases hq with rfl | rfl <;> decide
  have hand : ∀ {p q : Int}, Bit p → Bit q → Bit (Builtin.bitAnd p q) := fun hp hq => by
    rcases hp with rfl | rfl <;> rcases hq with rfl | rfl <;> decide
  have hor : ∀ {p q : Int}, Bit p → Bit q → Bit (Builtin.bitOr p q) := fun hp hq => by
    rcases hp with rfl | rfl <;> rcases hq with rfl | rfl <;> decide
  unfold dbit
  split; · exact bit0
  split; · exact bit1
  split; · exact hc
  split; · exact hc
  split; · exact n1
  split; · exact hx n1 hc
  split; · exact hand ha hb
  split; · exact hor ha hb
  split; · exact hx ha hb
  exact hx (hx ha hb) hc
theorem dcar_bit {x : Str} {a b c : Int} (ha : Bit a) (hb : Bit b) (hc : Bit c) : Bit (dcar x a b c) := by
  unfold dcar
  split
  · rcases ha with rfl | rfl <;> rcases hc with rfl | rfl <;> decide
  split; · exact ha
  split
  · rcases ha with rfl | rfl <;> rcases hb with rfl | rfl <;> rcases hc with rfl | rfl <;> decide
  split
  · rcases ha with rfl | rfl <;> rcases hb with rfl | rfl <;> rcases hc with rfl | rfl <;> decide
  exact bit0
theorem argAt_bit {told : List Int} (h : ∀ x ∈ told, Bit x) (d : Deed) (j : Nat) : Bit (argAt d told j) := by
  unfold argAt
  rw [List.getD_eq_getElem?_getD]
  cases e : told[(d.2.getD j 0).toNat]? with
  | none => exact bit0
  | some y => exact h y (List.mem_of_getElem? e)
theorem bts_next : ∀ {ds : List Deed} {cs t : List Int} {i : Nat} {d : Deed} {c : Int}, ds[i]? = some d → cs[i]? = some c → bts (ds.take (i + 1)) (cs.take (i + 1)) t = bts (ds.take i) (cs.take i) t ++ [dbitAt d c (bts (ds.take i) (cs.take i) t)]
  | [], _, _, _, _, _, h, _ => by simp at h
  | _ :: _, [], _, _, _, _, _, h => by simp at h
  | e :: ds, g :: cs, t, 0, d, c, h, k => by
    simp only [List.getElem?_cons_zero, Option.some.injEq] at h k
    subst h k
    rfl
  | e :: ds, g :: cs, t, i + 1, d, c, h, k => by
    simp only [List.getElem?_cons_succ] at h k
    exact bts_next (t := t ++ [dbitAt e g t]) h k
theorem bts_len : ∀ {ds : List Deed} {cs t : List Int}, ds.length = cs.length → (bts ds cs t).length = t.length + ds.length
  | [], [], _, _ => rfl
  | [], _ :: _, _, h => by simp at h
  | _ :: _, [], _, h => by simp at h
  | d :: ds, c :: cs, t, h => by
    show (bts ds cs (t ++ [dbitAt d c t])).length = _
    rw [bts_len (by simpa using h), List.length_append, List.length_cons, List.length_cons, List.length_nil]
    omega
theorem bts_bits : ∀ {ds : List Deed} {cs t : List Int}, (∀ x ∈ t, Bit x) → (∀ x ∈ cs, Bit x) → ∀ x ∈ bts ds cs t, Bit x
  | [], cs, t, h, _ => by
    unfold bts
    exact h
  | _ :: _, [], t, h, _ => by
    unfold bts
    exact h
  | d :: ds, c :: cs, t, h, k => by
    refine bts_bits (ds := ds) (cs := cs) (t := t ++ [dbitAt d c t]) (fun x hx => ?_) fun x hx => k x (List.mem_cons_of_mem _ hx)
    rcases List.mem_append.mp hx with hx | hx
    · exact h x hx
    · rw [List.mem_singleton.mp hx]
      exact dbit_bit (argAt_bit h d 0) (argAt_bit h d 1) (k c List.mem_cons_self)
theorem nxt_len {ds : List Deed} {cs t : List Int} (h : ds.length = cs.length) : (nxt ds cs t).length = ds.length := by
  unfold nxt
  rw [List.length_zipWith]
  omega
theorem nxt_bits {ds : List Deed} {cs t : List Int} (h : ∀ x ∈ t, Bit x) (k : ∀ x ∈ cs, Bit x) : ∀ x ∈ nxt ds cs t, Bit x := by
  intro x hx
  unfold nxt at hx
  obtain ⟨i, hi⟩ := List.mem_iff_getElem?.mp hx
  rw [List.getElem?_zipWith] at hi
  cases e1 : ds[i]? with
  | none => rw [e1] at hi; simp at hi
  | some d =>
    cases e2 : cs[i]? with
    | none => rw [e1, e2] at hi; simp at hi
    | some c =>
      rw [e1, e2] at hi
      have := Option.some.inj hi
      rw [← this]
      exact dcar_bit (argAt_bit h d 0) (argAt_bit h d 1) (k c (List.mem_of_getElem? e2))
theorem nxt_next {ds : List Deed} {cs t : List Int} {i : Nat} {d : Deed} {c : Int} (h : ds[i]? = some d) (k : cs[i]? = some c) : (nxt ds cs t).take (i + 1) = (nxt ds cs t).take i ++ [dcarAt d c t] := by
  rw [List.take_add_one]
  unfold nxt
  rw [List.getElem?_zipWith, h, k]
  rfl
section
variable {K : PySem.W.Frag} {a b : Addr} {xs ys : List V}
theorem walk_zipT (hn : xs.length = ys.length) : Walk (RZ.ItzT K a b) xs.length (fun H => SqT K H a xs ∧ SqT K H b ys) (YPair (fun i => xs[i]?) (fun i => ys[i]?)) where
  goes := fun i H hi q => ⟨xs, ys, xs[i], ys[i]'(by omega), q.1, q.2, List.getElem?_eq_getElem hi, List.getElem?_eq_getElem (by omega)⟩
  stops := fun H q => ⟨xs, ys, q.1, q.2, .inl (Nat.le_refl _)⟩
  yields := fun i H v H2 hi q y => by
    obtain ⟨T, x, z, h1, h2, h3, h4, h5⟩ := y
    exact ⟨T, x, z, h1, h2, h3, h4 xs q.1, h5 ys q.2⟩
end
/-! ### own exceptions as values -/
section
variable {X : Cx} {K : PySem.W.Frag}
theorem kit_ref {D C : Addr} {b : Bool} (h1 : PySem.W.isClsIn K C = true) (h2 : PySem.W.typeIn K (.ref C) = some (.type "type")) (h3 : PySem.W.subIn K (.ref D) (.ref C) = some b) (h4 : PySem.W.subIn K (.ref C) (.ref C) = some true) : PySem.W.kitOne K (.ref D) (.ref C) = some b := by
  unfold PySem.W.kitOne
  by_cases e : D = C
  · subst e
    rw [h3] at h4
    rw [if_pos (by simp), h4]
  · rw [if_neg (by simpa using e)]
    have e1 : ((PySem.W.clsIn K C).isSome && PySem.W.typeIn K (.ref C) == some (.type "type")) = true := by
      have h1' : (PySem.W.clsIn K C).isSome = true := h1
      rw [h1', h2]
      rfl
    show (if ((PySem.W.clsIn K C).isSome && PySem.W.typeIn K (.ref C) == some (.type "type")) = true then PySem.W.subIn K (.ref D) (.ref C) else none) = some b
    rw [if_pos e1]
    exact h3
theorem kit_ve {D : Addr} {b : Bool} (h : PySem.W.subIn K (.ref D) (.type "ValueError") = some b) : PySem.W.kitOne K (.ref D) (.type "ValueError") = some b := by
  have e1 : PySem.W.kitMeta "ValueError" = true := by decide +kernel
  show (if PySem.W.kitMeta "ValueError" = true then PySem.W.subIn K (.ref D) (.type "ValueError") else none) = some b
  rw [if_pos e1]
  exact h
def rIsX (K : PySem.W.Frag) : List V → Hp → VK → Prop := fun xs H Q => ∃ (a D : Addr) (c : V) (cv : Value) (b : Bool), xs = [.ref a, c] ∧ H a = some (ExO (.ref D) a) ∧ ExcC K D ∧ ClsV c cv ∧ PySem.W.kitOne K (.ref D) cv = some b ∧ Q (.bl b) H
theorem call_isX : CallR X (.builtin "isinstance") (rIsX X.K) := by
  intro pins s σ H xs us Q I r h
  obtain ⟨a, D, c, cv, b, rfl, ha, hD, hc, hk, q⟩ := h
  match us, r with
  | [u1, u2], .cons r1 (.cons r2 .nil) =>
    obtain rfl : u1 = Value.ref a := r1
    obtain rfl := ClsV.eq hc r2
    obtain ⟨⟨oe, vs, hget, ⟨z1, z2⟩, hv, _⟩, _, _⟩ := I.hok a _ ha
    have J : PySem.W.InstAt s.heap a oe D none := by
      obtain ⟨oc, od, oda, osl⟩ := oe
      dsimp only at z1 z2 hv
      subst z1 z2 hv
      exact ⟨hget, rfl, rfl, trivial⟩
    exact PySem.W.kia_one (PySem.W.handS_kitx_exc hD.hg hD.hk hD.hs hD.hd hD.ha hD.hn hD.ht hD.hm) I.kIn J hk (fun z => nomatch z) fun tk => ⟨.bl b, H, I.kept (t' := tk) fun _ _ z => z, rfl, q⟩
end
theorem dp_bls {K : PySem.W.Frag} {H : Hp} : ∀ cs : List Bool, DpAll K H (cs.map V.bl) (cs.map PyData.bool)
  | [] => .nil
  | c :: cs => .cons (.bl c) (dp_bls cs)
theorem lay_bls : ∀ cs : List Bool, PyData.canLayAll0 (cs.map PyData.bool) = true ∧ PyData.depthAll (cs.map PyData.bool) = 0
  | [] => ⟨by simp only [List.map_nil, PyData.canLayAll0], by simp only [List.map_nil, PyData.depthAll]⟩
  | c :: cs => by
    obtain ⟨h1, h2⟩ := lay_bls cs
    exact ⟨by simp only [List.map_cons, PyData.canLayAll0, PyData.canLay0, h1, Bool.and_self], by simp only [List.map_cons, PyData.depthAll, PyData.depth, h2, Nat.max_self]⟩
theorem shaped_bls (cs : List Bool) : SeqAt.shaped (.list (cs.map PyData.bool)) = true := by
  obtain ⟨h1, h2⟩ := lay_bls cs
  simp only [SeqAt.shaped, PyData.canLay0, PyData.depth, h1, h2, Bool.true_and]
  decide
theorem eqv_bls (l : List Bool) : PyData.eqv (.list (l.map PyData.bool)) (.list (l.map PyData.bool)) = true := SeqAt.eqv_refl _ (SeqAt.canLay_of_shaped (shaped_bls l))
/-- a test that is never asked -/
def tNevT : TT := fun _ _ _ => False
theorem pt_never {X : Cx} {e : Expr} : PT X e tNevT := ⟨fun _ _ _ _ _ _ h => h.elim⟩
end AW
namespace KK
open PySem PySem.Spec PyProof.Rows L2 AW
def topS (i : Nat) : Stmt := PySem.Challenge.pw_anywide_k32_choices_of_one_worth_counted.main.body.getD i (.Pass ⟨0, 0, 0, 0⟩)
abbrev s_all_bits : Stmt := topS 1
abbrev N_all_bits : List Str := ["many", "choices", "place", "bits", "bit"]
theorem sc_all_bits : FnScope N_all_bits ["many"] (defScope s_all_bits) := ⟨rfl, rfl, rfl, by decide +kernel, rfl, by decide +kernel, by decide +kernel⟩
abbrev s_first_carry : Stmt := topS 2
abbrev N_first_carry : List Str := ["row", "deed"]
theorem sc_first_carry : FnScope N_first_carry ["row"] (defScope s_first_carry) := ⟨rfl, rfl, rfl, by decide +kernel, rfl, by decide +kernel, by decide +kernel⟩
abbrev s_deed_bit : Stmt := topS 3
abbrev N_deed_bit : List Str := ["deed", "held", "told", "word", "first", "second"]
theorem sc_deed_bit : FnScope N_deed_bit ["deed", "held", "told"] (defScope s_deed_bit) := ⟨rfl, rfl, rfl, by decide +kernel, rfl, by decide +kernel, by decide +kernel⟩
abbrev s_bits_of : Stmt := topS 4
abbrev N_bits_of : List Str := ["row", "carry", "bits", "told", "deed", "held"]
theorem sc_bits_of : FnScope N_bits_of ["row", "carry", "bits"] (defScope s_bits_of) := ⟨rfl, rfl, rfl, by decide +kernel, rfl, by decide +kernel, by decide +kernel⟩
abbrev s_two_or_more : Stmt := topS 5
abbrev N_two_or_more : List Str := ["one", "other", "third"]
theorem sc_two_or_more : FnScope N_two_or_more ["one", "other", "third"] (defScope s_two_or_more) := ⟨rfl, rfl, rfl, by decide +kernel, rfl, by decide +kernel, by decide +kernel⟩
abbrev s_deed_carry : Stmt := topS 6
abbrev N_deed_carry : List Str := ["deed", "held", "told", "word"]
theorem sc_deed_carry : FnScope N_deed_carry ["deed", "held", "told"] (defScope s_deed_carry) := ⟨rfl, rfl, rfl, by decide +kernel, rfl, by decide +kernel, by decide +kernel⟩
abbrev s_carry_behind : Stmt := topS 7
abbrev N_carry_behind : List Str := ["row", "carry", "told", "deed", "held"]
theorem sc_carry_behind : FnScope N_carry_behind ["row", "carry", "told"] (defScope s_carry_behind) := ⟨rfl, rfl, rfl, by decide +kernel, rfl, by decide +kernel, by decide +kernel⟩
abbrev s_steps : Stmt := topS 8
abbrev N_steps : List Str := ["row", "carry", "told", "bits", "all_told"]
theorem sc_steps : FnScope N_steps ["row", "carry"] (defScope s_steps) := ⟨rfl, rfl, rfl, by decide +kernel, rfl, by decide +kernel, by decide +kernel⟩
abbrev s_kept_steps : Stmt := topS 9
abbrev N_kept_steps : List Str := ["kept", "row", "carry"]
theorem sc_kept_steps : FnScope N_kept_steps ["kept", "row", "carry"] (defScope s_kept_steps) := ⟨rfl, rfl, rfl, by decide +kernel, rfl, by decide +kernel, by decide +kernel⟩
abbrev s_counted_on : Stmt := topS 11
abbrev N_counted_on : List Str := ["row", "kept", "counts", "wanted", "told", "carry", "many", "bit", "after"]
theorem sc_counted_on : FnScope N_counted_on ["row", "kept", "counts", "wanted"] (defScope s_counted_on) := ⟨rfl, rfl, rfl, by decide +kernel, rfl, by decide +kernel, by decide +kernel⟩
abbrev s_how_many : Stmt := topS 12
abbrev N_how_many : List Str := ["row", "width", "word", "kept", "counts", "place"]
theorem sc_how_many : FnScope N_how_many ["row", "width", "word"] (defScope s_how_many) := ⟨rfl, rfl, rfl, by decide +kernel, rfl, by decide +kernel, by decide +kernel⟩
abbrev s_law_well : Stmt := topS 14
abbrev N_law_well : List Str := ["script", "seed", "cell"]
theorem sc_law_well : FnScope N_law_well ["script"] (defScope s_law_well) := ⟨rfl, rfl, rfl, by decide +kernel, rfl, by decide +kernel, by decide +kernel⟩
abbrev s_law_draw : Stmt := topS 15
abbrev N_law_draw : List Str := ["well", "many", "cell", "found"]
theorem sc_law_draw : FnScope N_law_draw ["well", "many"] (defScope s_law_draw) := ⟨rfl, rfl, rfl, by decide +kernel, rfl, by decide +kernel, by decide +kernel⟩
abbrev s_law_first_words : Stmt := topS 16
abbrev N_law_first_words : List Str := ["found", "word"]
theorem sc_law_first_words : FnScope N_law_first_words [] (defScope s_law_first_words) := ⟨rfl, rfl, rfl, by decide +kernel, rfl, by decide +kernel, by decide +kernel⟩
abbrev s_law_deed : Stmt := topS 17
abbrev N_law_deed : List Str := ["well", "ahead", "words", "word", "k"]
theorem sc_law_deed : FnScope N_law_deed ["well", "ahead"] (defScope s_law_deed) := ⟨rfl, rfl, rfl, by decide +kernel, rfl, by decide +kernel, by decide +kernel⟩
abbrev s_law_row : Stmt := topS 18
abbrev N_law_row : List Str := ["well", "many", "most", "size", "last", "deeds", "k", "out"]
theorem sc_law_row : FnScope N_law_row ["well", "many", "most"] (defScope s_law_row) := ⟨rfl, rfl, rfl, by decide +kernel, rfl, by decide +kernel, by decide +kernel⟩
abbrev s_law_top : Stmt := topS 19
abbrev N_law_top : List Str := ["width", "top", "k"]
theorem sc_law_top : FnScope N_law_top ["width"] (defScope s_law_top) := ⟨rfl, rfl, rfl, by decide +kernel, rfl, by decide +kernel, by decide +kernel⟩
abbrev s_law_value : Stmt := topS 20
abbrev N_law_value : List Str := ["word", "handed", "top", "a", "b"]
theorem sc_law_value : FnScope N_law_value ["word", "handed", "top"] (defScope s_law_value) := ⟨rfl, rfl, rfl, by decide +kernel, rfl, by decide +kernel, by decide +kernel⟩
abbrev s_law_values : Stmt := topS 21
abbrev N_law_values : List Str := ["row", "top", "words", "found", "deed", "number"]
theorem sc_law_values : FnScope N_law_values ["row", "top", "words"] (defScope s_law_values) := ⟨rfl, rfl, rfl, by decide +kernel, rfl, by decide +kernel, by decide +kernel⟩
abbrev s_law_words : Stmt := topS 22
abbrev N_law_words : List Str := ["well", "many", "top", "found", "k", "way"]
theorem sc_law_words : FnScope N_law_words ["well", "many", "top"] (defScope s_law_words) := ⟨rfl, rfl, rfl, by decide +kernel, rfl, by decide +kernel, by decide +kernel⟩
abbrev s_law_all_words : Stmt := topS 23
abbrev N_law_all_words : List Str := ["many", "top", "found", "place", "longer", "word", "some"]
theorem sc_law_all_words : FnScope N_law_all_words ["many", "top"] (defScope s_law_all_words) := ⟨rfl, rfl, rfl, by decide +kernel, rfl, by decide +kernel, by decide +kernel⟩
abbrev s_law_step : Stmt := topS 24
abbrev N_law_step : List Str := ["row", "carry", "bits", "found", "later", "k", "deed", "word", "c", "a", "b", "bit", "more", "number"]
theorem sc_law_step : FnScope N_law_step ["row", "carry", "bits"] (defScope s_law_step) := ⟨rfl, rfl, rfl, by decide +kernel, rfl, by decide +kernel, by decide +kernel⟩
abbrev s_law_first : Stmt := topS 25
abbrev N_law_first : List Str := ["row", "deed"]
theorem sc_law_first : FnScope N_law_first ["row"] (defScope s_law_first) := ⟨rfl, rfl, rfl, by decide +kernel, rfl, by decide +kernel, by decide +kernel⟩
abbrev s_law_choices : Stmt := topS 26
abbrev N_law_choices : List Str := ["many", "found", "place", "some"]
theorem sc_law_choices : FnScope N_law_choices ["many"] (defScope s_law_choices) := ⟨rfl, rfl, rfl, by decide +kernel, rfl, by decide +kernel, by decide +kernel⟩
abbrev s_law_long_row : Stmt := topS 27
abbrev N_law_long_row : List Str := ["well", "many", "size", "last", "deeds", "k", "out"]
theorem sc_law_long_row : FnScope N_law_long_row ["well", "many"] (defScope s_law_long_row) := ⟨rfl, rfl, rfl, by decide +kernel, rfl, by decide +kernel, by decide +kernel⟩
abbrev s_law_word : Stmt := topS 28
abbrev N_law_word : List Str := ["well", "row", "top", "way"]
theorem sc_law_word : FnScope N_law_word ["well", "row", "top"] (defScope s_law_word) := ⟨rfl, rfl, rfl, by decide +kernel, rfl, by decide +kernel, by decide +kernel⟩
abbrev s_law_counted : Stmt := topS 29
abbrev N_law_counted : List Str := ["row", "width", "word", "ways", "known", "place", "later", "carry", "some", "there", "bits", "behind"]
theorem sc_law_counted : FnScope N_law_counted ["row", "width", "word"] (defScope s_law_counted) := ⟨rfl, rfl, rfl, by decide +kernel, rfl, by decide +kernel, by decide +kernel⟩
abbrev s_law : Stmt := topS 30
abbrev N_law : List Str := ["script", "well", "turn", "great", "many", "row", "width", "top", "found", "word", "wide", "words"]
theorem sc_law : FnScope N_law ["script"] (defScope s_law) := ⟨rfl, rfl, rfl, by decide +kernel, rfl, by decide +kernel, by decide +kernel⟩
section
variable {P : Program} {w : World} {K : PySem.W.Frag} {mg : Str → Option Value} {base : Heap}
/-! ### dicts whose keys are tuples: entries, walks, displays, the least value -/
section dts
theorem dt_raw {H : Hp} {h : Heap} {d : Addr} {kvs : List (List Key × V)} (ok : ObjOk P w H h d (.dT kvs)) :
    (d == sysModules) = false ∧ ∃ es ep, h.DictRaw d es ep ∧ es.size = kvs.length ∧ ∀ (i : Nat) (hi : i < es.size), ∃ k v q, kvs[i]? = some (k, v) ∧ es[i].key = .ref q ∧ H q = some (.tup (k.map kV)) ∧ RelV v es[i].val := by
  obtain ⟨_, hs, xs, pr, o, es, ep, ho, hx, hdt, he, _⟩ := ok
  have l1 : es.size = xs.length := size_of_entries he
  refine ⟨hs, es, ep, ⟨o, ho, hx, hdt⟩, l1.trans (awLen pr).symm, fun i hi => ?_⟩
  have hi2 : i < xs.length := by omega
  obtain ⟨⟨k, v⟩, h1, h2, h3, h4⟩ := awGet2 pr (List.getElem?_eq_getElem hi2)
  have e : es.toList[i]? = some (entryOfKey (tupleKind (mixKind P w)) xs[i]) := by
    rw [he, List.getElem?_map, List.getElem?_eq_getElem hi2]
    rfl
  have e2 : es[i] = entryOfKey (tupleKind (mixKind P w)) xs[i] := by
    rw [Array.getElem?_toList, Array.getElem?_eq_getElem hi] at e
    exact Option.some.inj e
  refine ⟨k, v, xs[i].2.1, h1, ?_, h3, ?_⟩
  · rw [e2]
    rfl
  · rw [e2]
    exact h4
/-- the pairs, each a new tuple with the key's own tuple -/
def ItT (d : Addr) (o : Obj) (kvs : List (List Key × V)) : It where
  go := fun i H => H d = some (.frz o (.dT kvs)) ∧ i < kvs.length
  yld := fun i H x H' => ∃ (T q : Addr) (k : List Key) (v : V), kvs[i]? = some (k, v) ∧ H q = some (.tup (k.map kV)) ∧ x = .ref T ∧ H T = none ∧ H' = upd H T (.tup [.ref q, v])
  stop := fun i H => H d = some (.frz o (.dT kvs)) ∧ kvs.length ≤ i
theorem turn_T {d : Addr} {o : Obj} {kvs : List (List Key × V)} {elts : List Expr} {kk : Nat} {tpos : Pos} (it : Addr) {ep : Nat} {es : Array DictEntry} (hod : o.data = .dict es ep) :
    Turn P w K (.Tuple elts kk tpos) (ItT d o kvs) [it] it (fun i h => ∃ x y, IsItemIter h it d i kvs.length ep x y) where
  mem := List.mem_singleton.mpr rfl
  obj := fun i h st b hb => by
    obtain rfl := List.mem_singleton.mp hb
    obtain ⟨x, y, e⟩ := st
    exact ⟨_, e, fun v z => nomatch z⟩
  keep := fun i h h' st k => by
    obtain ⟨x, y, e⟩ := st
    exact ⟨x, y, k it (List.mem_singleton.mpr rfl) _ e⟩
  item := by
    intro X hP hw hK hc i pins s σ H E I hf st hg
    subst hP hw hK
    obtain ⟨hd, hi⟩ := hg
    obtain ⟨hg1, okd⟩ := I.hok d _ hd
    obtain ⟨_, es', ep', raw, sz, ent⟩ := dt_raw okd
    have raw' := raw
    obtain ⟨o', ho', _, hdt'⟩ := raw'
    obtain rfl : o' = o := Option.some.inj (ho'.symm.trans hg1)
    obtain ⟨rfl, rfl⟩ := dict_ep hod hdt'
    obtain ⟨x, y, he⟩ := st
    have hi' : i < es'.size := by omega
    obtain ⟨k, v, q, hkv, hkey, hq, rv⟩ := ent i hi'
    rw [← sz] at he
    have below : it < s.heap.objs.size := Heap.lt_size he
    refine wpAny_pyNext_items_item_raw he raw hi' fun h' ho hT _ hk => ?_
    refine ⟨_, rfl, wpAny_letOwnedTupleGo_items (s := { s with heap := h' }) ho fun h2 he2 sb => ?_⟩
    have there : h2.get? s.heap.objs.size = some { cls := .type "tuple", data := .seq #[es'[i].key, es'[i].val] } := (sb.2 _ (Nat.ne_of_gt below)).trans hT
    have laid : ObjOk X.prog X.w (upd H s.heap.objs.size (.tup [.ref q, v])) h2 s.heap.objs.size (.tup [.ref q, v]) :=
      ⟨by show 2 ≤ sizeLine; decide, [es'[i].key, es'[i].val], .cons hkey (.cons rv .nil), ⟨_, there, rfl, _, rfl⟩⟩
    refine ⟨.ref s.heap.objs.size, _, I.turnedNew (t' := s.toks) (ch := [it]) (fun b ob hb e => ?_) hf (Nat.le_refl _) laid, rfl, ⟨_, q, k, v, hkv, hq, rfl, I.hok.fresh (Nat.le_refl _), rfl⟩, ⟨es'[i].key, es'[i].val, by rw [← sz]; exact he2⟩, fun b hb => ?_⟩
    · have nb : b ≠ it := fun z => hb (List.mem_singleton.mpr z)
      exact (sb.2 b nb).trans (hk b ob nb e)
    · obtain rfl := List.mem_singleton.mp hb
      rw [upd_ne (Nat.ne_of_lt below)]
      exact (hf b hb).1
  done := by
    intro X hP hw hK hc i pins s σ H E I hf st hg
    subst hP hw hK
    obtain ⟨hd, hi⟩ := hg
    obtain ⟨f0, f1, f2, f3, f4, f5⟩ := hf it (List.mem_singleton.mpr rfl)
    obtain ⟨hg1, okd⟩ := I.hok d _ hd
    obtain ⟨_, es', ep', raw, sz, _⟩ := dt_raw okd
    have raw' := raw
    obtain ⟨o', ho', _, hdt'⟩ := raw'
    obtain rfl : o' = o := Option.some.inj (ho'.symm.trans hg1)
    obtain ⟨rfl, rfl⟩ := dict_ep hod hdt'
    obtain ⟨x, y, he⟩ := st
    rw [← sz] at he
    refine wpAny_pyNext_items_end_raw (I.ok.hd hc) he raw (by omega) fun h' eb => ⟨rfl, ?_⟩
    exact I.turned (t' := s.toks) (fun b ob hb e => eb b ob hb e) f0 f1 f3 f4 f5
  self := fun A i s Q E st h => by
    obtain ⟨x, y, e⟩ := st
    exact wpAny_pyIter_itemiter e h
variable {X : Cx} {e : Expr} {td : TE} {apos cpos : Pos}
def iItT (td : TE) : TI := fun σ H R => td σ H fun x H1 => ∃ d o kvs, x = .ref d ∧ H1 d = some (.frz o (.dT kvs)) ∧ R (ItT d o kvs) H1
theorem pi_itT {elts : List Expr} {kk : Nat} {tpos : Pos} (he : PE X e td) (hb : attributeBase e "items" X.env (eval e X.env) = eval e X.env := by rfl) (hl : (apos.endLine == cpos.line) = true := by rfl) :
    PI X (.Tuple elts kk tpos) (.Call (.Attribute e "items" apos) [] [] cpos) (iItT td) := by
  constructor
  intro pins s σ H R I h
  refine wpAny_Call_method (T := "dict") (id := "dict.items") hb rfl hl F.plainAttrs_dict F.slot_dict_items F.type_dict_items (thn (he.run pins s σ H _ I h) ?_)
  rintro u s1 ⟨x, H1, I1, rx, d, o, kvs, rfl, hd, q⟩
  obtain rfl : u = Value.ref d := rx
  obtain ⟨hg1, okd⟩ := I1.hok d _ hd
  obtain ⟨hs, es, ep, raw, sz, _⟩ := dt_raw okd
  have raw' := raw
  obtain ⟨o', ho', hx', hdt'⟩ := raw'
  obtain rfl : o' = o := Option.some.inj (ho'.symm.trans hg1)
  have I2 : Inv X pins σ H1 { s1 with heap := s1.heap.push { cls := .type "dict_items", data := .fields #[.ref d] } } := I1.kept (t' := s1.toks) fun b ob z => Heap.get?_push_of_some _ z
  refine ⟨raw.typeIs, fun a z => ⟨o', by cases z; exact hg1, hx'.2.1⟩, ?_⟩
  refine method_meetsIn F.slot_dict_items F.entry_dict_items rfl (PySem.evalArgs_none ⟨rfl, raw.typeIs, F.args_dict_items_1 _, _, meets_dict_items_raw d hs, ⟨es, ep, raw⟩, ?_⟩)
  refine wpAny_pyIter_items_raw (d := d) ⟨_, Heap.get?_push_size _ rfl, rfl, rfl⟩ (raw.at fun ob z => Heap.get?_push_of_some _ z) (pi_one (tk := s1.toks) I2 _ (turn_T _ hdt') ⟨.none, .none, ?_⟩ q)
  rw [← sz]
  exact Heap.get?_push_size _ rfl
theorem walk_T {d : Addr} {o : Obj} {kvs : List (List Key × V)} : Walk (ItT d o kvs) kvs.length (fun H => H d = some (.frz o (.dT kvs)))
    (fun i H x H' => ∃ (T q : Addr) (k : List Key) (v : V), kvs[i]? = some (k, v) ∧ H q = some (.tup (k.map kV)) ∧ x = .ref T ∧ H T = none ∧ H' = upd H T (.tup [.ref q, v])) :=
  ⟨fun _ _ hi q => ⟨q, hi⟩, fun _ q => ⟨q, Nat.le_refl _⟩, fun _ _ _ _ _ _ y => y⟩
/-- d.values() -/
def valsO (p d : Addr) : HO := .ext fun h => h.IsValuesView p d
theorem valsO_ok {H : Hp} {h : Heap} {p d : Addr} (e : h.get? p = some { cls := .type "dict_values", data := .fields #[.ref d] }) : ObjOk P w H h p (valsO p d) := by
  refine ⟨⟨_, e, rfl, rfl⟩, ⟨_, e⟩, ?_⟩
  rintro h1 h2 ⟨o, ho, r⟩ k
  exact ⟨o, k o ho, r⟩
def rValsT : V → List V → Hp → VK → Prop := fun x xs H Q => ∃ (a : Addr) (kvs : List (List Key × V)), x = .ref a ∧ xs = [] ∧ H a = some (.dT kvs) ∧ ∀ p, H p = none → Q (.ref p) (upd H p (valsO p a))
theorem mt_valsT : MtR X "dict.values" rValsT := by
  intro pins s σ H x xs v us Q I rx rxs h
  obtain ⟨a, kvs, rfl, rfl, ha, q⟩ := h
  cases rx
  cases rxs
  obtain ⟨hs, es, ep, raw, _⟩ := dt_raw (I.hok a _ ha)
  refine call_meetsIn F.slot_dict_values raw.typeIs F.entry_dict_values (F.args_dict_values_1 _) (meets_dict_values_raw a hs) ⟨⟨es, ep, raw⟩, ?_⟩
  have I2 := I.laid (o := valsO s.heap.objs.size a) (t' := s.toks) (fun b u z => Heap.get?_push_of_some _ z) (Nat.le_refl _) (valsO_ok (H := upd H s.heap.objs.size (valsO s.heap.objs.size a)) (Heap.get?_push_size _ rfl))
  exact ⟨.ref _, _, I2, rfl, q _ (I.hok.fresh (Nat.le_refl _))⟩
theorem best_least {f : Nat → Int} : ∀ n, argBest (fun i j => decide (f i < f j)) n ≤ n ∧ ∀ j, j ≤ n → f (argBest (fun i j => decide (f i < f j)) n) ≤ f j
  | 0 => ⟨Nat.le_refl _, fun j hj => (Nat.le_zero.mp hj).symm ▸ Int.le_refl _⟩
  | n + 1 => by
    obtain ⟨h1, h2⟩ := best_least (f := f) n
    unfold argBest
    by_cases e : f (n + 1) < f (argBest (fun i j => decide (f i < f j)) n)
    · rw [if_pos (by simpa using e)]
      refine ⟨Nat.le_refl _, fun j hj => ?_⟩
      by_cases hj2 : j ≤ n
      · have := h2 j hj2
        omega
      · obtain rfl : j = n + 1 := by omega
        exact Int.le_refl _
    · rw [if_neg (by simpa using e)]
      refine ⟨by omega, fun j hj => ?_⟩
      by_cases hj2 : j ≤ n
      · exact h2 j hj2
      · obtain rfl : j = n + 1 := by omega
        omega
/-- min(d.values()), the values ints -/
def rMinV : List V → Hp → VK → Prop := fun vs H Q => ∃ (p a : Addr) (kvs : List (List Key × V)) (zs : List Int), vs = [.ref p] ∧ H p = some (valsO p a) ∧ H a = some (.dT kvs) ∧ kvs.map (·.2) = zs.map V.int ∧ zs ≠ [] ∧ ∀ z, z ∈ zs → (∀ y ∈ zs, z ≤ y) → Q (.int z) H
theorem call_minV (hc : X.calm = true) : CallR X (.builtin "min") rMinV := by
  intro pins s σ H vs us Q I r h
  obtain ⟨p, a, kvs, zs, rfl, hp, ha, hz, hne, q⟩ := h
  obtain ⟨u, rfl, ru⟩ := vals1 r
  obtain rfl : u = Value.ref p := ru
  obtain ⟨hs, es, ep, raw, sz, ent⟩ := dt_raw (I.hok a _ ha)
  have hv : s.heap.IsValuesView p a := (I.hok p _ hp).1
  have zl : zs.length = es.size := by
    have := congrArg List.length hz
    rw [List.length_map, List.length_map] at this
    omega
  have la : a < s.heap.objs.size := raw.elim fun o z => Heap.lt_size z.1
  refine call_min_walk (wpAny_pyIter_values_raw hv raw ?_)
  have rel : ∀ i v, (∃ hi : i < es.size, v = es[i].val) → ∃ t, v = .int (zs.getD i 0) t := by
    rintro i v ⟨hi, rfl⟩
    obtain ⟨k, v, _, hkv, _, _, rv⟩ := ent i hi
    have e : (kvs.map (·.2))[i]? = some v := by rw [List.getElem?_map, hkv]; rfl
    rw [hz, List.getElem?_map] at e
    cases e2 : zs[i]? with
    | none => rw [e2] at e; cases e
    | some z =>
      rw [e2] at e
      obtain rfl : V.int z = v := Option.some.inj e
      rw [List.getD_eq_getElem?_getD, e2]
      exact rv
  refine ⟨s.heap.objs.size, [s.heap.objs.size, a], [s.heap.objs.size], es.size, _, _, fun i j => decide (zs.getD i 0 < zs.getD j 0), rfl, Walks.rawValues (A := X.A.in1) (I.ok.hd hc) _ a (Nat.ne_of_lt la) es ep, ?_, ?_, ?_, CmpOf.ints_lt (fun i => zs.getD i 0) rel, ?_⟩
  · exact ⟨⟨_, Heap.get?_push_size _ rfl, rfl, rfl⟩, raw.at fun o z => Heap.get?_push_of_some _ z⟩
  · intro b hb
    show b < (s.heap.push _).objs.size
    rw [Heap.size_push]
    simp only [List.mem_cons, List.not_mem_nil, or_false] at hb
    rcases hb with rfl | rfl
    · exact Nat.lt_succ_self _
    · exact Nat.lt_succ_of_lt la
  · have := List.length_pos_iff.mpr hne
    omega
  · intro v h' tk hP hk
    obtain ⟨t, rfl⟩ := rel _ _ hP
    obtain ⟨b1, b2⟩ := best_least (f := fun i => zs.getD i 0) (es.size - 1)
    have pos := List.length_pos_iff.mpr hne
    generalize argBest (fun i j => decide (zs.getD i 0 < zs.getD j 0)) (es.size - 1) = m at b1 b2 hP
    have hm : m < zs.length := by omega
    have em : zs.getD m 0 = zs[m] := by rw [List.getD_eq_getElem?_getD, List.getElem?_eq_getElem hm]; rfl
    refine ⟨.int (zs.getD m 0), H, I.kept fun b o e => hk b o (fun z => ?_) (Heap.get?_push_of_some _ e), ⟨t, rfl⟩, q _ (by rw [em]; exact List.getElem_mem hm) fun y hy => ?_⟩
    · exact absurd (List.mem_singleton.mp z) (Nat.ne_of_lt (Heap.lt_size e))
    · obtain ⟨j, hj, rfl⟩ := List.mem_iff_getElem.mp hy
      have := b2 j (by omega)
      have ej : zs.getD j 0 = zs[j] := by rw [List.getD_eq_getElem?_getD, List.getElem?_eq_getElem hj]; rfl
      rw [ej] at this
      exact this
/-- whether a dict is not empty -/
theorem truth_H {κ : Type} [DecidableEq κ] {knd : HeapKind P w κ} {A : Around} {E : Value → Shared → Prop} {s : Shared} {d : Addr} {xs : List (κ × Addr × Value)} {Q : Bool → Shared → Prop} (hd : (d == sysModules) = false) (hm : s.heap.DictOfH knd d xs)
    (hf : (xs.length : Int) < 2 ^ 63) (h : Q (!xs.isEmpty) { s with toks := s.toks + 1 + 1 }) : wpAny (model P w) A (truthy (.ref d)) Q E s := by
  have e : ((xs.length : Int) != 0) = !xs.isEmpty := by cases xs <;> simp <;> omega
  have run : wpAny (model P w) A (runValue (.builtin "len" ⟨[.ref d], []⟩)) (fun r s' => r = .int xs.length (s.toks + 1) ∧ Q (!xs.isEmpty) s') E s := by
    apply wpAny_runValue
    apply codeAny_builtin entry_len
    rw [Around.under_plainId plain_len _]
    refine wpAny_mono (wpAny_len_body_dictH (Q := fun r s' => r = .int xs.length (s.toks + 1) ∧ Q (!xs.isEmpty) s') hd hm hf ⟨rfl, h⟩) ?_ (fun _ _ z => z)
    rintro fin s' ⟨r, rfl, z⟩
    exact z
  unfold truthy
  first
  | apply wpAny_bind; refine wpAny_callSpecial?_none (name := Str.ofString "__bool__") hm.typeIs noBool_dict ?_
  | apply wpAny_bind; apply wpAny_pure; apply wpAny_bind; refine wpAny_callSpecial?_none (name := Str.ofString "__bool__") hm.typeIs noBool_dict ?_
  first
  | apply wpAny_bind; refine wpAny_specialOf (name := Str.ofString "__len__") hm.typeIs F.slot_dict_len.lookup ?_
  | apply wpAny_bind; apply wpAny_pure; apply wpAny_bind; refine wpAny_specialOf (name := Str.ofString "__len__") hm.typeIs F.slot_dict_len.lookup ?_
  first
  | apply wpAny_bind
    refine wpAny_mono run ?_ (fun _ _ z => z)
    rintro r s' ⟨rfl, z⟩
    exact wpAny_pure (e ▸ z)
  | apply wpAny_bind
    apply wpAny_pure
    apply wpAny_bind
    refine wpAny_mono run ?_ (fun _ _ z => z)
    rintro r s' ⟨rfl, z⟩
    exact wpAny_pure (e ▸ z)
theorem tru_dT : TruR X (fun x H Q => ∃ a kvs, x = .ref a ∧ H a = some (.dT kvs) ∧ Q (!kvs.isEmpty) H) := by
  intro pins s σ H x v Q I rx h
  obtain ⟨a, kvs, rfl, ha, q⟩ := h
  obtain rfl : v = Value.ref a := rx
  obtain ⟨z, hd, ys, rel, dd⟩ := dt_of I.hok ha
  have hl : kvs.length = ys.length := awLen rel
  refine truth_H hd dd (by rw [← hl]; rw [sizeLine_eq] at z; omega) ⟨H, I.tok _, ?_⟩
  have e : (!ys.isEmpty) = !kvs.isEmpty := by cases rel <;> rfl
  rw [e]
  exact q
/-- {t: v}, t a tuple -/
def tDispT (tk tv : TE) : TE := fun σ H Q => ∀ p, H p = none → tk σ (upd H p (.dT [])) fun x H1 => tv σ H1 fun v H2 => ∃ b k, x = .ref b ∧ H2 b = some (.tup (k.map kV)) ∧ H2 p = some (.dT []) ∧ Q (.ref p) (upd H2 p (.dT [(k, v)]))
theorem pe_dispT {ek ev : Expr} {tk tv : TE} {pos : Pos} (hu : X.A.units < cLine) (hk : PE X ek tk) (hv : PE X ev tv) : PE X (.Dict [some ek] [ev] pos) (tDispT tk tv) := by
  constructor
  intro pins s σ H Q I q
  have hn := I.hok.fresh (Nat.le_refl s.heap.objs.size)
  have I1 := I.laid (a := s.heap.objs.size) (o := .dT []) (h' := s.heap.push { cls := .type "dict", data := .dict #[] }) (t' := s.toks) (fun _ _ z => Heap.get?_push_of_some _ z) (Nat.le_refl _) (dt_empty s.heap I.big)
  rw [arm_eval_Dict, zip_pairTrees [some ek] [ev] X.env pos rfl rfl, dictDisplay_pairs (pairTrees [some ek] [ev] X.env pos) (by simp [pairTrees]) (by simp [pairTrees])]
  apply wpAny_bind
  apply wpAny_standAt
  apply wpAny_bind
  refine wpAny_subDictH (knd := tupleKind (mixKind X.prog X.w)) (show X.A.units < cLine from hu) (by show 1 ≤ 15; decide) ?_
  refine thn ((pps_cons (pos := pos) hk hv pps_nil).run pins _ σ _ (fun ps H2 => match ps with | [(x, v)] => ∃ b k, x = .ref b ∧ H2 b = some (.tup (k.map kV)) ∧ H2 s.heap.objs.size = some (.dT []) ∧ Q (.ref s.heap.objs.size) (upd H2 s.heap.objs.size (.dT [(k, v)])) | _ => False) I1 (q _ hn)) ?_
  rintro ws s2 ⟨ps, H2, I2, rel, hq⟩
  match ps, ws, rel, hq with
  | [(x, v)], [(u1, u2)], .cons ⟨r1, r2⟩ .nil, ⟨b, k, e, hb, hp, q2⟩ =>
    subst e
    obtain rfl : u1 = Value.ref b := r1
    obtain ⟨_, hd, ys, r0, dd⟩ := dt_of I2.hok hp
    cases r0
    refine ⟨[(k, b, u2)], ⟨rfl, rfl, key_of I2.hok hb, trivial⟩, dd, fun h' tk dd' hs => ?_⟩
    obtain ⟨o, es, ep, ho, h2, h3, h4, _, h5⟩ := dd'
    have npb : b ≠ s.heap.objs.size := ne_of hb hp (fun z => nomatch z)
    have I3 : Inv X pins σ (upd H2 s.heap.objs.size (.dT [(k, v)])) { s2 with heap := h', toks := tk } :=
      d_write I2 (by rw [hp]; exact True.intro) hs ⟨o, ho⟩ ⟨by show 1 ≤ sizeLine; decide, hd, [(k, b, u2)], .cons ⟨rfl, by rw [upd_ne npb]; exact hb, r2⟩ .nil, o, es, ep, ho, h2, h3, h4, h5⟩
    exact wpAny_pure ⟨.ref s.heap.objs.size, _, I3, rfl, q2⟩
end dts
/-! ### dicts whose keys are nested tuples of ints -/
mutual
inductive NkAt (H : Hp) : NestedKey → V → Prop
  | num (i : Int) : NkAt H (.num i) (.int i)
  | tup {a : Addr} {xs : List V} {ks : List NestedKey} : H a = some (.tup xs) → NkAll H ks xs → NkAt H (.tup ks) (.ref a)
inductive NkAll (H : Hp) : List NestedKey → List V → Prop
  | nil : NkAll H [] []
  | cons {k : NestedKey} {v : V} {ks : List NestedKey} {vs : List V} : NkAt H k v → NkAll H ks vs → NkAll H (k :: ks) (v :: vs)
end
section nds
variable {X : Cx}
mutual
theorem nk_is {pins : List (Addr × Obj)} {σ : L2.St} {H : Hp} {s : Shared} (I : Inv X pins σ H s) : ∀ (k : NestedKey) (v : V) (u : Value), NkAt H k v → RelV v u → NestedIs s.heap k u
  | .none, _, _, h, _ => nomatch h
  | .text _, _, _, h, _ => nomatch h
  | .num i, _, _, h, r => by
    cases h
    obtain ⟨t, rfl⟩ := r
    exact .int _ _
  | .tup ks, _, _, h, r => by
    cases h with
    | tup e hs =>
      cases r
      obtain ⟨_, its, rv, o, ho, hc, n, hd⟩ := I.hok _ _ e
      exact .tup ho hc hd (by simpa using nks_is I ks _ _ hs rv)
theorem nks_is {pins : List (Addr × Obj)} {σ : L2.St} {H : Hp} {s : Shared} (I : Inv X pins σ H s) : ∀ (ks : List NestedKey) (vs : List V) (us : List Value), NkAll H ks vs → Vals vs us → NestedAll s.heap ks us
  | [], _, _, h, r => by
    cases h
    cases r
    exact .nil
  | k :: ks, _, _, h, r => by
    cases h with
    | cons h1 h2 =>
      cases r with
      | cons r1 r2 => exact .cons (nk_is I k _ _ h1 r1) (nks_is I ks _ _ h2 r2)
end
mutual
theorem nk_stay {H H' : Hp} (t : TupsStay H H') : ∀ (k : NestedKey) (v : V), NkAt H k v → NkAt H' k v
  | .none, _, h => nomatch h
  | .text _, _, h => nomatch h
  | .num i, _, h => by
    cases h
    exact .num i
  | .tup ks, _, h => by
    cases h with
    | tup e hs => exact .tup (t _ _ e) (nks_stay t ks _ hs)
theorem nks_stay {H H' : Hp} (t : TupsStay H H') : ∀ (ks : List NestedKey) (vs : List V), NkAll H ks vs → NkAll H' ks vs
  | [], _, h => by
    cases h
    exact .nil
  | k :: ks, _, h => by
    cases h with
    | cons h1 h2 => exact .cons (nk_stay t k _ h1) (nks_stay t ks _ h2)
end
abbrev NE := NestedKey × Addr × V
abbrev NRel : List NE → List (NestedKey × Addr × Value) → Prop := Paired fun p q => p.1 = q.1 ∧ p.2.1 = q.2.1 ∧ RelV p.2.2 q.2.2
def NDO (P : Program) (w : World) (a : Addr) (xs : List NE) : HO := .ext fun h => xs.length ≤ sizeLine ∧ (a == sysModules) = false ∧ ∃ ys, NRel xs ys ∧ ∃ o es ep, h.get? a = some o ∧ o.ExactDict ∧ o.data = .dict es ep ∧ es.toList = ys.map (entryOfKey (nestedKind P w)) ∧ (ys.map (·.1)).Nodup
theorem ndo_ok {P : Program} {w : World} {H : Hp} {h : Heap} {a : Addr} {xs : List NE} {ys : List (NestedKey × Addr × Value)} (hz : xs.length ≤ sizeLine) (hd : (a == sysModules) = false) (r : NRel xs ys) (dd : h.DictOfH (nestedKind P w) a ys) : ObjOk P w H h a (NDO P w a xs) := by
  obtain ⟨o, es, ep, h1, h2, h3, h4, _, h5⟩ := dd
  refine ⟨⟨hz, hd, ys, r, o, es, ep, h1, h2, h3, h4, h5⟩, ⟨o, h1⟩, ?_⟩
  rintro g1 g2 ⟨z1, z2, ys, z3, o, es, ep, z4, z5⟩ k
  exact ⟨z1, z2, ys, z3, o, es, ep, k o z4, z5⟩
structure ND (P : Program) (w : World) (H : Hp) (a : Addr) (xs : List NE) : Prop where
  ob : H a = some (NDO P w a xs)
  ks : ∀ p ∈ xs, NkAt H p.1 (.ref p.2.1) ∧ p.1.depth ≤ 8
theorem ND.full {pins : List (Addr × Obj)} {σ : L2.St} {H : Hp} {s : Shared} {a : Addr} {xs : List NE} (I : Inv X pins σ H s) (h : ND X.prog X.w H a xs) : xs.length ≤ sizeLine ∧ (a == sysModules) = false ∧ ∃ ys, NRel xs ys ∧ s.heap.DictOfH (nestedKind X.prog X.w) a ys := by
  obtain ⟨⟨z1, z2, ys, z3, o, es, ep, z4, z5, z6, z7, z8⟩, _⟩ := I.hok a _ h.ob
  refine ⟨z1, z2, ys, z3, o, es, ep, z4, z5, z6, z7, fun y hy => ?_, z8⟩
  obtain ⟨i, hi⟩ := List.mem_iff_getElem?.mp hy
  obtain ⟨p, hp, e1, e2, _⟩ := awGet2 z3 hi
  obtain ⟨k1, k2⟩ := h.ks p (List.mem_of_getElem? hp)
  rw [e1, e2] at k1
  rw [e1] at k2
  exact ⟨nk_is I _ _ _ k1 rfl, k2⟩
def getN (xs : List NE) (k : NestedKey) : Option V := (xs.find? fun x => decide (x.1 = k)).map (·.2.2)
theorem getN_rel {k : NestedKey} : ∀ {xs : List NE} {ys : List (NestedKey × Addr × Value)}, NRel xs ys → RelO (getN xs k) ((atKey ys k).map (·.2))
  | _, _, .nil => trivial
  | x :: _, y :: _, .cons ⟨e1, _, e3⟩ t => by
    have ih := getN_rel (k := k) t
    unfold getN atKey at *
    rw [List.find?_cons, List.find?_cons, ← e1]
    by_cases h : x.1 = k
    · rw [decide_eq_true h]
      exact e3
    · rw [decide_eq_false h]
      exact ih
theorem getN_none {k : NestedKey} {xs : List NE} : getN xs k = none ↔ ∀ p ∈ xs, p.1 ≠ k := by
  unfold getN
  rw [Option.map_eq_none_iff, List.find?_eq_none]
  simp
theorem getN_some {k : NestedKey} {xs : List NE} {v : V} (h : getN xs k = some v) : ∃ b, (k, b, v) ∈ xs := by
  unfold getN at h
  cases e : xs.find? fun x => decide (x.1 = k) with
  | none => rw [e] at h; cases h
  | some p =>
    rw [e] at h
    have h2 : p.1 = k := of_decide_eq_true (List.find?_some (p := fun x : NE => decide (x.1 = k)) e)
    obtain rfl : p.2.2 = v := Option.some.inj h
    exact ⟨p.2.1, h2 ▸ List.mem_of_find?_eq_some e⟩
theorem getN_snoc {k j : NestedKey} {b : Addr} {v : V} {xs : List NE} (hn : getN xs k = none) : getN (xs ++ [(k, b, v)]) j = if j = k then some v else getN xs j := by
  unfold getN at *
  rw [List.find?_append]
  by_cases h : j = k
  · subst h
    rw [if_pos rfl, Option.map_eq_none_iff.mp hn]
    simp
  · rw [if_neg h]
    have hk : ¬ k = j := fun z => h z.symm
    cases xs.find? fun x => decide (x.1 = j) with
    | none => simp [hk]
    | some p => rfl
theorem nd_stay {P : Program} {w : World} {H H' : Hp} {a : Addr} {xs : List NE} (h : ND P w H a xs) (e : H' a = some (NDO P w a xs)) (t : TupsStay H H') : ND P w H' a xs := ⟨e, fun p hp => ⟨nk_stay t _ _ (h.ks p hp).1, (h.ks p hp).2⟩⟩
theorem nd_same {P : Program} {w : World} {H H' : Hp} {a : Addr} {xs : List NE} (h : ND P w H a xs) (s : Same H H') : ND P w H' a xs := nd_stay h (s _ _ h.ob) (Same.tups s)
/-- {} -/
theorem pe_ndnew {P : Program} {w : World} (hP : X.prog = P) (hw : X.w = w) {pos : Pos} : PE X (.Dict [] [] pos) (fun _ H Q => ∀ p, H p = none → Q (.ref p) (upd H p (NDO P w p []))) := by
  subst hP hw
  constructor
  intro pins s σ H Q I h
  have ok : ObjOk X.prog X.w (upd H s.heap.objs.size (NDO X.prog X.w s.heap.objs.size [])) (s.heap.push { cls := .type "dict", data := .dict #[] }) s.heap.objs.size (NDO X.prog X.w s.heap.objs.size []) :=
    ndo_ok (Nat.zero_le _) (beq_eq_false_iff_ne.mpr (Ne.symm (Nat.ne_of_lt I.big))) .nil (Heap.DictOfH.new s.heap)
  exact wpAny_Dict_empty ⟨.ref _, _, I.laid (t' := s.toks) (fun _ _ z => Heap.get?_push_of_some _ z) (Nat.le_refl _) ok, rfl, h _ (I.hok.fresh (Nat.le_refl _))⟩
theorem nd_nil {P : Program} {w : World} {H : Hp} {a : Addr} : ND P w (upd H a (NDO P w a [])) a [] := ⟨upd_same, (fun _ z => nomatch z)⟩
/-- what is asked of a key -/
def KeyN (H : Hp) (y : V) (k : NestedKey) : Prop := NkAt H k y ∧ k.depth ≤ 8 ∧ ∃ b, y = .ref b
def tNGet (P : Program) (w : World) (td ty : TE) : TE := fun σ H Q => td σ H fun x H1 => ty σ H1 fun y H2 => ∃ a xs k v, x = .ref a ∧ ND P w H2 a xs ∧ KeyN H2 y k ∧ getN xs k = some v ∧ Q v H2
def tNNotIn (P : Program) (w : World) (ty td : TE) : TE := fun σ H Q => ty σ H fun y H1 => td σ H1 fun x H2 => ∃ a xs k, x = .ref a ∧ ND P w H2 a xs ∧ KeyN H2 y k ∧ Q (.bl (!(getN xs k).isSome)) H2
def sNPut (P : Program) (w : World) (td ty tv : TE) : TS := fun D σ H => tv σ H fun v H1 => td σ H1 fun x H2 => ty σ H2 fun y H3 => ∃ a xs k b, x = .ref a ∧ ND P w H3 a xs ∧ y = .ref b ∧ KeyN H3 y k ∧ getN xs k = none ∧ xs.length < sizeLine ∧ D.nx σ (upd H3 a (NDO P w a (xs ++ [(k, b, v)])))
theorem nd_put {P : Program} {w : World} {H : Hp} {a b : Addr} {xs : List NE} {k : NestedKey} {v : V} (h : ND P w H a xs) (hk : KeyN H (.ref b) k) : ND P w (upd H a (NDO P w a (xs ++ [(k, b, v)]))) a (xs ++ [(k, b, v)]) := by
  have t : TupsStay H (upd H a (NDO P w a (xs ++ [(k, b, v)]))) := fun c ys e => by
    rw [upd_ne (ne_of e h.ob (fun z => nomatch z))]
    exact e
  refine ⟨upd_same, fun p hp => ?_⟩
  rcases List.mem_append.mp hp with hp | hp
  · exact ⟨nk_stay t _ _ (h.ks p hp).1, (h.ks p hp).2⟩
  · rw [List.mem_singleton.mp hp]
    exact ⟨nk_stay t _ _ hk.1, hk.2.1⟩
theorem nd_at {pins : List (Addr × Obj)} {σ : L2.St} {H : Hp} {s : Shared} {y : V} {k : NestedKey} {u : Value} (I : Inv X pins σ H s) (hk : KeyN H y k) (r : RelV y u) : ∃ b, u = .ref b ∧ y = .ref b ∧ (nestedKind X.prog X.w).is s.heap k b := by
  obtain ⟨h1, h2, b, rfl⟩ := hk
  obtain rfl : u = Value.ref b := r
  exact ⟨b, rfl, rfl, nk_is I _ _ _ h1 rfl, h2⟩
theorem nrel_none {k : NestedKey} {xs : List NE} {ys : List (NestedKey × Addr × Value)} (r : NRel xs ys) (h : getN xs k = none) : atKey ys k = none := by
  have z := getN_rel (k := k) r
  rw [h] at z
  cases e : atKey ys k with
  | none => rfl
  | some p => rw [e] at z; exact z.elim
theorem pe_ndget {P : Program} {w : World} (hP : X.prog = P) (hw : X.w = w) {o i : Expr} {td ty : TE} {pos : Pos} (hu : X.A.units + 64 < cLine) (ho : PE X o td) (hi : PE X i ty) (hs : NoSl i) : PE X (.Subscript o i pos) (tNGet P w td ty) := by
  subst hP hw
  constructor
  intro pins s σ H Q I h
  refine subD_of PySem.F.slot_dict_getitem.lookup hs (thn (ho.run pins s σ H _ I h) ?_)
  rintro u s1 ⟨x, H1, I1, rx, q1⟩
  refine thn (hi.run pins s1 σ H1 _ I1 q1) ?_
  rintro iv s2 ⟨y, H2, I2, ry, a, xs, k, v, rfl, hn, hk, hv, q2⟩
  obtain rfl : u = Value.ref a := rx
  obtain ⟨b, rfl, rfl, hb⟩ := nd_at I2 hk ry
  obtain ⟨_, hd, ys, r, dd⟩ := hn.full I2
  have z := getN_rel (k := k) r
  rw [hv] at z
  cases e : atKey ys k with
  | none => rw [e] at z; exact z.elim
  | some p =>
    rw [e] at z
    exact ⟨dd.typeIs, wpAny_getItem_heap (knd := nestedKind X.prog X.w) (show X.A.in1.units + 8 < cLine by show X.A.units + 1 + 8 < cLine; omega) hb dd e ⟨v, H2, I2.tok _, z, q2⟩⟩
theorem pc_ndnotin {P : Program} {w : World} (hP : X.prog = P) (hw : X.w = w) {o i : Expr} {td ty : TE} (hu : X.A.units + 64 < cLine) (hi : PE X i ty) (ho : PE X o td) : PC X .NotIn i o (tNNotIn P w ty td) := by
  subst hP hw
  constructor
  intro pins s σ H Q I h
  refine thn (hi.run pins s σ H _ I h) ?_
  rintro iv s1 ⟨y, H1, I1, ry, q1⟩
  refine thn (ho.run pins s1 σ H1 _ I1 q1) ?_
  rintro u s2 ⟨x, H2, I2, rx, a, xs, k, rfl, hn, hk, q2⟩
  obtain rfl : u = Value.ref a := rx
  obtain ⟨b, rfl, rfl, hb⟩ := nd_at I2 hk ry
  obtain ⟨_, hd, ys, r, dd⟩ := hn.full I2
  have z := (getN_rel (k := k) r).isSome_eq
  rw [Option.isSome_map] at z
  refine notIn_keyed (knd := nestedKind X.prog X.w) (show X.A.in1.units + 8 < cLine by show X.A.units + 1 + 8 < cLine; omega) hb hd ⟨ys, dd, rfl⟩ ⟨.bl (!(getN xs k).isSome), H2, I2.tok _, ?_, q2⟩
  rw [valueAt_pairsH, Option.isSome_map, ← z]
  rfl
theorem nd_write {pins : List (Addr × Obj)} {σ : L2.St} {H : Hp} {s : Shared} {a b : Addr} {xs : List NE} {ys : List (NestedKey × Addr × Value)} {k : NestedKey} {v : V} {r : Value} {h' : Heap} {tk : Nat} (I : Inv X pins σ H s) (hn : ND X.prog X.w H a xs) (hl : xs.length < sizeLine) (rel : NRel xs ys) (hd : (a == sysModules) = false)
    (h0 : atKey ys k = none) (rv : RelV v r) (dd : h'.DictOfH (nestedKind X.prog X.w) a (storedH ys k b r)) (hs : Heap.SameBut a s.heap h') : Inv X pins σ (upd H a (NDO X.prog X.w a (xs ++ [(k, b, v)]))) { s with heap := h', toks := tk } := by
  rw [storedH_new h0] at dd
  have he : ∃ o, h'.get? a = some o := dd.elim fun o z => ⟨o, z.choose_spec.choose_spec.1⟩
  refine d_write I (by rw [hn.ob]; exact True.intro) hs he (ndo_ok ?_ hd (awSnoc (F := fun (p : NE) (q : NestedKey × Addr × Value) => p.1 = q.1 ∧ p.2.1 = q.2.1 ∧ RelV p.2.2 q.2.2) ⟨rfl, rfl, rv⟩ rel) dd)
  rw [List.length_append]
  exact hl
theorem ps_ndput {P : Program} {w : World} (hP : X.prog = P) (hw : X.w = w) {o i value : Expr} {td ty tv : TE} {pos pos' : Pos} (hu : X.A.units + 64 < cLine) (ho : PE X o td) (hi : PE X i ty) (hv : PE X value tv) (hs : swapsWith value (some (.Subscript o i pos')) pos.line X.env = pure false) :
    PS X (.Assign [.Subscript o i pos'] value pos) (sNPut P w td ty tv) := by
  subst hP hw
  constructor
  intro pins s σ H D I h
  refine wpAny_Assign_Subscript (thn (hv.run pins s σ H _ I h) ?_) hs
  rintro r s1 ⟨v, H1, I1, rv, q1⟩
  refine thn (ho.run pins s1 σ H1 _ I1 q1) ?_
  rintro u s2 ⟨x, H2, I2, rx, q2⟩
  refine thn (hi.run pins s2 σ H2 _ I2 q2) ?_
  rintro iv s3 ⟨y, H3, I3, ry, a, xs, k, b, rfl, hn, rfl, hk, hg, hl, q3⟩
  obtain rfl : u = Value.ref a := rx
  obtain ⟨b', rfl, eb, hb⟩ := nd_at I3 hk ry
  obtain rfl : b = b' := V.ref.inj eb
  obtain ⟨_, hd, ys, rel, dd⟩ := hn.full I3
  have hz : ys.length ≤ sizeLine := by
    have := awLen rel
    omega
  exact wpAny_setItem_heap (knd := nestedKind X.prog X.w) (hsz := hz) (show X.A.in1.units + 8 < cLine by show X.A.units + 1 + 8 < cLine; omega) hb dd fun h' dd' hs' => ⟨σ, _, nd_write I3 hn hl rel hd (nrel_none rel hg) rv dd' hs', q3⟩
/-- {t: v} -/
def tNDisp (P : Program) (w : World) (tk tv : TE) : TE := fun σ H Q => ∀ p, H p = none → tk σ (upd H p (NDO P w p [])) fun x H1 => tv σ H1 fun v H2 => ∃ b k, x = .ref b ∧ KeyN H2 x k ∧ H2 p = some (NDO P w p []) ∧ Q (.ref p) (upd H2 p (NDO P w p [(k, b, v)]))
theorem pe_ndisp {P : Program} {w : World} (hP : X.prog = P) (hw : X.w = w) {ek ev : Expr} {tk tv : TE} {pos : Pos} (hu : X.A.units + 64 < cLine) (hk : PE X ek tk) (hv : PE X ev tv) : PE X (.Dict [some ek] [ev] pos) (tNDisp P w tk tv) := by
  subst hP hw
  constructor
  intro pins s σ H Q I q
  have hn := I.hok.fresh (Nat.le_refl s.heap.objs.size)
  have ok : ObjOk X.prog X.w (upd H s.heap.objs.size (NDO X.prog X.w s.heap.objs.size [])) (s.heap.push { cls := .type "dict", data := .dict #[] }) s.heap.objs.size (NDO X.prog X.w s.heap.objs.size []) :=
    ndo_ok (Nat.zero_le _) (beq_eq_false_iff_ne.mpr (Ne.symm (Nat.ne_of_lt I.big))) .nil (Heap.DictOfH.new s.heap)
  have I1 := I.laid (t' := s.toks) (fun _ _ z => Heap.get?_push_of_some _ z) (Nat.le_refl _) ok
  rw [arm_eval_Dict, zip_pairTrees [some ek] [ev] X.env pos rfl rfl, dictDisplay_pairs (pairTrees [some ek] [ev] X.env pos) (by simp [pairTrees]) (by simp [pairTrees])]
  apply wpAny_bind
  apply wpAny_standAt
  apply wpAny_bind
  refine wpAny_subDictH (knd := nestedKind X.prog X.w) (show X.A.units + 8 < cLine by omega) (by show 1 ≤ 15; decide) ?_
  refine thn ((pps_cons (pos := pos) hk hv pps_nil).run pins _ σ _ (fun ps H2 => match ps with | [(x, v)] => ∃ b k, x = .ref b ∧ KeyN H2 x k ∧ H2 s.heap.objs.size = some (NDO X.prog X.w s.heap.objs.size []) ∧ Q (.ref s.heap.objs.size) (upd H2 s.heap.objs.size (NDO X.prog X.w s.heap.objs.size [(k, b, v)])) | _ => False) I1 (q _ hn)) ?_
  rintro ws s2 ⟨ps, H2, I2, rel, hq⟩
  match ps, ws, rel, hq with
  | [(x, v)], [(u1, u2)], .cons ⟨r1, r2⟩ .nil, ⟨b, k, e, hk2, hp, q2⟩ =>
    subst e
    obtain ⟨b', rfl, eb, hb⟩ := nd_at I2 hk2 r1
    obtain rfl : b = b' := V.ref.inj eb
    have hN : ND X.prog X.w H2 s.heap.objs.size [] := ⟨hp, (fun _ z => nomatch z)⟩
    obtain ⟨_, hd, ys, r0, dd⟩ := hN.full I2
    cases r0
    refine ⟨[(k, b, u2)], ⟨rfl, rfl, hb, trivial⟩, dd, fun h' tk dd' hs => ?_⟩
    exact wpAny_pure ⟨.ref s.heap.objs.size, _, nd_write I2 hN (by show 0 < sizeLine; decide) .nil hd rfl r2 dd' hs, rfl, q2⟩
/-- len(d) -/
theorem call_lenN {P : Program} {w : World} (hP : X.prog = P) (hw : X.w = w) : CallR X (.builtin "len") (fun vs H Q => ∃ p xs, vs = [.ref p] ∧ ND P w H p xs ∧ Q (.int ((xs.length : Nat) : Int)) H) := by
  subst hP hw
  intro pins s σ H vs us Q I r h
  obtain ⟨p, xs, rfl, hn, q⟩ := h
  obtain ⟨u, rfl, ru⟩ := vals1 r
  obtain rfl : u = Value.ref p := ru
  obtain ⟨z, hd, ys, rel, dd⟩ := hn.full I
  have hl : xs.length = ys.length := awLen rel
  refine call_len_dictH hd dd (by rw [← hl]; rw [sizeLine_eq] at z; omega) ?_
  rw [← hl]
  exact ⟨.int _, H, I.tok _, ⟨_, rfl⟩, q⟩
/-- d.setdefault(k, v) -/
def rNSetd (P : Program) (w : World) : V → List V → Hp → VK → Prop := fun x vs H Q => ∃ a xs k b v, x = .ref a ∧ vs = [.ref b, v] ∧ ND P w H a xs ∧ KeyN H (.ref b) k ∧ xs.length < sizeLine ∧ (∀ y, getN xs k = some y → Q y H) ∧ (getN xs k = none → Q v (upd H a (NDO P w a (xs ++ [(k, b, v)]))))
theorem mt_nsetd (hu : X.A.units + 64 < cLine) : MtR X "dict.setdefault" (rNSetd X.prog X.w) := by
  intro pins s σ H x vs v us Q I rx rxs h
  obtain ⟨a, xs, k, b, v0, rfl, rfl, hn, hk, hl, q1, q2⟩ := h
  cases rx
  obtain ⟨u1, u2, rfl, r1, r2⟩ := vals2 rxs
  obtain ⟨b', rfl, eb, hb⟩ := nd_at I hk r1
  obtain rfl : b = b' := V.ref.inj eb
  obtain ⟨_, hd, ys, rel, dd⟩ := hn.full I
  have hz : ys.length ≤ sizeLine := by
    have := awLen rel
    omega
  have z := getN_rel (k := k) rel
  refine call_setdefault_heap (knd := nestedKind X.prog X.w) (hsz := hz) (show X.A.in1.units + 8 < cLine by show X.A.units + 1 + 8 < cLine; omega) hb hd dd (fun p hp => ?_) (fun h0 h' dd' hs => ?_)
  · rw [hp] at z
    cases e : getN xs k with
    | none => rw [e] at z; exact z.elim
    | some y =>
      rw [e] at z
      exact ⟨y, H, I.tok _, z, q1 y e⟩
  · rw [h0] at z
    cases e : getN xs k with
    | some y => rw [e] at z; exact z.elim
    | none => exact ⟨v0, _, nd_write I hn hl rel hd h0 r2 dd' hs, r2, q2 e⟩
def tNSetd (P : Program) (w : World) (to : TE) (t : TA) : TE := fun σ H Q => to σ H fun x H1 => (∃ a xs, x = V.ref a ∧ ND P w H1 a xs) ∧ t σ H1 fun vs H2 => rNSetd P w x vs H2 Q
theorem pe_nsetd {P : Program} {w : World} (hP : X.prog = P) (hw : X.w = w) {o e : Expr} {es : List Expr} {to : TE} {t : TA} {apos cpos : Pos} (hu : X.A.units + 64 < cLine) (ho : PE X o to) (ha : PA X (e :: es) t)
    (c1 : attributeBase o "setdefault" X.env (eval o X.env) = eval o X.env := by rfl)
    (c2 : ((backTo cpos (starEach (e :: es) X.env)).all (fun x => !x.1) && (backToKw cpos (keywordEach [] X.env)).all (fun x => x.1.isSome) && decide ((e :: es).length + ([] : List Keyword).length + (if ([] : List Keyword).isEmpty then 0 else 1) < 30)) = true := by rfl)
    (c3 : (apos.endLine == cpos.line) = true := by rfl) (c4 : starEach (e :: es) X.env = (false, eval e X.env) :: starEach es X.env := by rfl) (c5 : (backTo cpos (starEach es X.env)).any (·.1) = false := by rfl) :
    PE X (.Call (.Attribute o "setdefault" apos) (e :: es) [] cpos) (tNSetd P w to t) := by
  subst hP hw
  constructor
  intro pins s σ H Q I h
  refine wpAny_Call_method_late c1 c2 c3 rfl (thn (ho.run pins s σ H _ I h) ?_)
  rintro v s1 ⟨x, H1, I1, r1, ⟨a, xs, rfl, hn⟩, q1⟩
  cases r1
  obtain ⟨_, hd, ys, rel, dd⟩ := hn.full I1
  obtain ⟨ob, es', ep, g1, g2, _⟩ := id dd
  refine ⟨"dict", "dict.setdefault", F.plainAttrs_dict, F.slot_dict_setdefault, F.type_dict_setdefault, dd.typeIs, (fun z e => ⟨ob, by injection e with e; rw [← e]; exact g1, g2.2.1⟩), ?_⟩
  have hA := ha.run cpos pins s1 σ H1 _ I1 q1
  rw [c4] at hA ⊢
  refine Calls.callWith_builtin (by show (false || (backTo cpos (starEach es X.env)).any (·.1)) = false; rw [c5]; rfl) (Calls.evalArgs_plain ?_)
  exact thn hA fun us s2 ⟨vs, H2, I2, r2, q2⟩ => mt_nsetd hu pins s2 σ H2 (.ref a) vs (.ref a) us Q I2 rfl r2 q2
end nds
def spWell (K : PySem.W.Frag) : Sp := fun vs H Q _ => ∃ (a : Addr) (ns : List Int), vs = [.ref a] ∧ SqL K H a (ns.map V.int) ∧ ns.length ≤ 63 ∧ (∀ z ∈ ns, Builtin.Int.intBits z ≤ 1048576) ∧
  ∀ H' p c, Same H H' → H p = none → H c = none → WL H' p c → Q (.ref p) H'
theorem ok_well {f : Addr} {fd : FuncData} {k : Nat} (F : Fun K "_law_well" "_law_well" s_law_well f fd) (ma : mg "abs" = none) : FnOk P w K mg base CX0 (k + 1) f fd ["script"] (spWell K) := by
  refine F.ok sc_law_well (fun vs H Q E h => ?_) (fun cdv A outer s H vs Q E hr h => ?_)
  · obtain ⟨a, ns, rfl, _⟩ := h
    rfl
  · obtain ⟨a, ns, rfl, hS, hlen, hbits, q⟩ := h
    refine ⟨_, pss_cons (ps_set (i := 1) sc_law_well.nd rfl (.inl rfl) pe_int)
      (pss_cons (ps_for PassesOwn.never rfl (pi_list (pv 0)) (pg_name (i := 2) sc_law_well.nd rfl (.inl rfl))
        (pss_one (ps_set (i := 1) sc_law_well.nd rfl (.inl rfl) (pe_op op_add (pe_op op_mod (pe_op op_powW (pe_op op_add (pe_op op_mul (pv 1) pe_int) (pv 2)) pe_int) pe_int) pe_int))))
      (pss_one (ps_ret (pe_lst (pa_cons (pe_lc (own := [("cell", 2)]) (g := gName 2) (by rfl) sc_law_well.nd (pi_list (pv 0)) (blkOk_by (own := [("cell", 2)]) (N := ["script", "seed", "cell"]) (sc := defScope s_law_well) (by decide +kernel))
          (fun _ _ _ _ _ => pg_name (i := 2) sc_law_well.nd rfl (Or.inl rfl)) (fun _ _ _ _ _ => pts_nil)
          (fun _ _ _ _ _ => pe_callB call_abs (by rfl) ma (by decide +kernel) (pa_cons (pv 2) pa_nil))) (pa_cons pe_int (pa_cons (pv 1) pa_nil))))))), ?_⟩
    refine ⟨.ref a, rfl, a, rfl, ⟨_, hS⟩, for_list (K := K) (a := a) (xs := ns.map V.int) (fun i σ H3 => ∃ z y, σ = [some (.ref a), some (.int z), y] ∧ 0 ≤ z ∧ z ≤ 2147483629 ∧ H3 = H) ⟨1, none, rfl, by decide, by decide, rfl⟩ (fun i σ H3 _ hp => ?_) (fun i x σ H3 hx hp => ?_) (fun σ H3 hp => ?_)⟩
    · obtain ⟨z, y, _, _, _, rfl⟩ := hp
      exact hS
    · obtain ⟨z, y, rfl, h0, h1, rfl⟩ := hp
      obtain ⟨c, hc, rfl⟩ : ∃ c, c ∈ ns ∧ x = .int c := by
        rw [List.getElem?_map] at hx
        cases e : ns[i]? with
        | none => rw [e] at hx; cases hx
        | some c => rw [e] at hx; exact ⟨c, List.mem_of_getElem? e, (Option.some.inj hx).symm⟩
      refine ⟨.int z, rfl, z, 50021, rfl, rfl, .inr ⟨by decide, by decide⟩, .int c, rfl, _, _, rfl, rfl, _, 3, rfl, rfl, seed_ok h0 h1 (hbits c hc), _, 2147483629, rfl, rfl, (by show (0 : Int) < 2147483629; decide), _, 1, rfl, rfl, ?_⟩
      refine ⟨_, some (.int c), rfl, ?_, ?_, rfl⟩
      · have := Int.emod_nonneg ((z * 50021 + c) ^ (3 : Int).toNat) (show (2147483629 : Int) ≠ 0 by decide)
        omega
      · have := Int.emod_lt_of_pos ((z * 50021 + c) ^ (3 : Int).toNat) (show (0 : Int) < 2147483629 by decide)
        omega
    · obtain ⟨z, y, rfl, h0, h1, rfl⟩ := hp
      refine ⟨.ref a, rfl, a, rfl, ⟨_, hS⟩, fun D hD => ?_⟩
      have sD : ∀ o, Same H3 (upd H3 D o) := fun o => same_new hD
      refine lc_list (K := K) (a := a) (xs := ns.map V.int) (fun i H4 => ∃ cs : List Int, cs.length = i ∧ H4 = upd H3 D (.lst (cs.map V.int))) ⟨[], rfl, rfl⟩ (fun i H4 _ hp => ?_) (fun i x H4 hx hp => ?_) (fun H4 hp => ?_)
      · obtain ⟨cs, _, rfl⟩ := hp
        exact (sD _).seq hS
      · obtain ⟨cs, hl, rfl⟩ := hp
        obtain ⟨c, hc, rfl⟩ : ∃ c, c ∈ ns ∧ x = .int c := by
          rw [List.getElem?_map] at hx
          cases e : ns[i]? with
          | none => rw [e] at hx; cases hx
          | some c => rw [e] at hx; exact ⟨c, List.mem_of_getElem? e, (Option.some.inj hx).symm⟩
        have hi : i < ns.length := by
          have := (List.getElem?_eq_some_iff.mp hx).1
          rwa [List.length_map] at this
        refine ⟨rfl, .int c, rfl, c, rfl, _, upd_same, ?_, cs ++ [if c < 0 then -c else c], ?_, ?_⟩
        · rw [List.length_map, hl]
          exact small1000 (by omega)
        · rw [List.length_append, hl]
          rfl
        · rw [upd_upd, List.map_append]
          rfl
      · obtain ⟨cs, hl, rfl⟩ := hp
        refine ⟨.int z, rfl, by show 3 ≤ sizeLine; decide, fun p hp => ?_⟩
        have np : p ≠ D := fun e => by
          rw [e, upd_same] at hp
          cases hp
        have hp2 : H3 p = none := by
          rw [upd_ne np] at hp
          exact hp
        refine q _ p D ((sD _).trans (same_new hp)) hp2 hD ⟨np, cs, 0, z, upd_same, ?_⟩
        rw [upd_ne np.symm, upd_same]
def spDraw : Sp := fun vs H Q _ => ∃ (a c : Addr) (m : Int), vs = [.ref a, .int m] ∧ 0 < m ∧ m ≤ 2 ^ 80 ∧ WL H a c ∧ ∀ H' z, 0 ≤ z → z < m → WL H' a c → Kp a c H H' → Q (.int z) H'
theorem ok_draw {f : Addr} {fd : FuncData} {k : Nat} (F : Fun K "_law_draw" "_law_draw" s_law_draw f fd) : FnOk P w K mg base CX0 (k + 1) f fd ["well", "many"] spDraw := by
  refine F.ok sc_law_draw (fun vs H Q E h => ?_) (fun cdv A outer s H vs Q E hr h => ?_)
  · obtain ⟨a, c, m, rfl, _⟩ := h
    rfl
  · obtain ⟨a, c, m, rfl, hm, hm2, hw, q⟩ := h
    refine ⟨_, pss_mid (ps_if (PW.pt (pw_and (pt_cmpR op_eq (pe_ix ix_list (pv 0) pe_int (fun _ _ => rfl)) pe_int (nomark _))
          (pw_and1 (pt_cmpR (op_neD hr.units) (pe_ix ix_list (pv 0) pe_int (fun _ _ => rfl)) (pe_lst pa_nil) (nomark _)))))
        (pss_cons (ps_set (i := 2) sc_law_draw.nd rfl (.inl rfl) (pe_bm PySem.F.plainAttrs_list PySem.F.slot_list_pop PySem.F.type_list_pop mt_popAt (pe_ix ix_list (pv 0) pe_int (fun _ _ => rfl)) (pa_cons pe_int pa_nil)))
        (pss_cons (ps_if (pt_cmpR op_lt (pv 2) (pe_op op_pow pe_int pe_int) (nomark _)) (pss_one (ps_ret (pe_op op_mod (pv 2) (pv 1)))) pss_nil)
        (pss_one (ps_asg (pv 2) (pg_sub (pv 0) pe_int set_list))))) pss_nil)
      (pss_cons (ps_if (pt_cmpR op_gt (pe_ix ix_list (pv 0) pe_int (fun _ _ => rfl)) pe_int (nomark _))
        (pss_cons (ps_set (i := 3) sc_law_draw.nd rfl (.inl rfl) (pe_op op_mod (pe_ix ix_list (pv 0) pe_int (fun _ _ => rfl)) (pv 1)))
        (pss_cons (ps_asg (pe_op op_fdivW (pe_ix ix_list (pv 0) pe_int (fun _ _ => rfl)) (pv 1)) (pg_sub (pv 0) pe_int set_list))
        (pss_one (ps_ret (pv 3))))) pss_nil)
      (pss_cons (ps_asg (pe_op op_mod (pe_op op_add (pe_op op_mul (pe_ix ix_list (pv 0) pe_int (fun _ _ => rfl)) pe_int) pe_int) pe_int) (pg_sub (pv 0) pe_int set_list))
      (pss_one (ps_ret (pe_op op_mod (pe_op op_fdiv (pe_op op_mod (pe_op op_pow (pe_op op_mod (pe_op op_pow (pe_ix ix_list (pv 0) pe_int (fun _ _ => rfl)) pe_int) pe_int) pe_int) pe_int) pe_int) (pv 1)))))), ?_⟩
    refine ⟨fun σ2 H2 => ∃ y, σ2 = [some (.ref a), some (.int m), y, none] ∧ WL H2 a c ∧ Kp a c H H2, ?_, ?_⟩
    · obtain ⟨nac, cs, r, sd, ea, ec⟩ := id hw
      have lA : SqL K H a [.ref c, .int r, .int sd] := .inl (.inl ea)
      refine ⟨.ref a, rfl, a, _, 1, .int r, rfl, rfl, lA, rfl, rfl, _, rfl, ite2 (fun e => ?_) (fun e => ?_)⟩
      · refine ⟨.ref a, rfl, a, _, 0, .ref c, rfl, rfl, lA, rfl, Nat.zero_le _, fun p hp => ?_⟩
        have sp : Same H (upd H p (.lst [])) := same_new hp
        refine ⟨.list (cs.map PyData.int), .list [], .lst (sp.seq (.inl (.inl ec))) (dp_ints cs), .lst (.inl (.inl upd_same)) .nil, shaped_ints cs, by decide +kernel, _, rfl, ?_⟩
        have ec2 : upd H p (.lst []) c = some (.lst (cs.map V.int)) := sp _ _ ec
        have ea2 : upd H p (.lst []) a = some (.lst [.ref c, .int r, .int sd]) := sp _ _ ea
        have lA2 : SqL K (upd H p (.lst [])) a [.ref c, .int r, .int sd] := .inl (.inl ea2)
        cases cs with
        | nil =>
          rw [show PyData.eqv (.list (([] : List Int).map PyData.int)) (.list []) = true by decide +kernel]
          exact ⟨_, rfl, hw.same sp, Same.kp sp⟩
        | cons x cs =>
          rw [show PyData.eqv (.list ((x :: cs).map PyData.int)) (.list []) = false by simp only [List.map_cons, PyData.eqv, PyData.eqvAll]]
          refine ⟨.ref a, rfl, a, _, 0, .ref c, rfl, rfl, lA2, rfl, .inl ⟨rfl, _, .inl (.inl ec2)⟩, c, _, 0, 0, .int x, rfl, rfl, ec2, by decide, by decide, ?_, rfl, ?_⟩
          · rw [List.length_map, List.length_cons]
            exact seq0 _
          have w3 : WL (upd (upd H p (.lst [])) c (.lst (List.eraseIdx ((x :: cs).map V.int) 0))) a c := ⟨nac, cs, r, sd, by rw [upd_ne nac]; exact ea2, upd_same⟩
          have k3 : Kp a c H (upd (upd H p (.lst [])) c (.lst (List.eraseIdx ((x :: cs).map V.int) 0))) := fun b o n1 n2 eb => by
            rw [upd_ne n2]
            exact sp _ _ eb
          refine ⟨.int x, rfl, 10, 18, rfl, rfl, ⟨by decide, by decide, by decide⟩, x, _, rfl, rfl, _, rfl, ite2 (fun e => ?_) (fun e => ?_)⟩
          · exact ⟨.int x, rfl, .int m, rfl, x, m, rfl, rfl, hm, q _ _ (Int.emod_nonneg _ (by omega)) (Int.emod_lt_of_pos _ hm) w3 k3⟩
          · refine ⟨.int x, rfl, .ref a, rfl, a, _, 1, 1, rfl, rfl, by rw [upd_ne nac]; exact ea2, rfl, some (.int x), rfl, ?_, ?_⟩
            · exact ⟨nac, cs, x, sd, upd_same, by rw [upd_ne nac.symm]; exact upd_same⟩
            · intro b o n1 n2 eb
              rw [upd_ne n1]
              exact k3 b o n1 n2 eb
      · exact ⟨_, rfl, hw, Kp.refl a c H⟩
    · rintro σ2 H2 ⟨y, rfl, hw2, kp⟩
      obtain ⟨nac, cs, r, sd, ea, ec⟩ := id hw2
      have lA : SqL K H2 a [.ref c, .int r, .int sd] := .inl (.inl ea)
      refine ⟨.ref a, rfl, a, _, 1, .int r, rfl, rfl, lA, rfl, r, 0, rfl, rfl, _, rfl, ite2 (fun e => ?_) (fun e => ?_)⟩
      · refine ⟨.ref a, rfl, a, _, 1, .int r, rfl, rfl, lA, rfl, .int m, rfl, r, m, rfl, rfl, hm, ?_⟩
        refine ⟨.ref a, rfl, a, _, 1, .int r, rfl, rfl, lA, rfl, .int m, rfl, r, m, rfl, rfl, wide_div (b := 81) hm (by omega) (by decide) (by decide), ?_⟩
        refine ⟨.ref a, rfl, a, _, 1, 1, rfl, rfl, ea, rfl, .int (r % m), rfl, ?_⟩
        refine q _ _ (Int.emod_nonneg _ (by omega)) (Int.emod_lt_of_pos _ hm) ⟨nac, cs, r / m, sd, upd_same, ?_⟩ ?_
        · rw [upd_ne nac.symm]
          exact ec
        · intro b o n1 n2 eb
          rw [upd_ne n1]
          exact kp b o n1 n2 eb
      · refine ⟨.ref a, rfl, a, _, 2, .int sd, rfl, rfl, lA, rfl, sd, 48271, rfl, rfl, .inr ⟨by decide, by decide⟩, _, 12345, rfl, rfl, _, 2147483647, rfl, rfl, (by show (0 : Int) < 2147483647; decide), ?_⟩
        have l0 := Int.emod_nonneg (sd * 48271 + 12345) (show (2147483647 : Int) ≠ 0 by decide)
        have l1 := Int.emod_lt_of_pos (sd * 48271 + 12345) (show (0 : Int) < 2147483647 by decide)
        obtain ⟨z, hz⟩ : ∃ z : Int, (sd * 48271 + 12345) % 2147483647 = z := ⟨_, rfl⟩
        rw [hz] at l0 l1
        refine ⟨.ref a, rfl, a, _, 2, 2, rfl, rfl, ea, rfl, ?_⟩
        have l2 := Int.emod_nonneg (z ^ (3 : Int).toNat) (show (2147483629 : Int) ≠ 0 by decide)
        have l3 := Int.emod_lt_of_pos (z ^ (3 : Int).toNat) (show (0 : Int) < 2147483629 by decide)
        refine ⟨.ref a, rfl, a, _, 2, .int z, rfl, rfl, .inl (.inl upd_same), (by rw [← hz]; rfl), z, 3, rfl, rfl, ⟨by decide, by decide, by omega⟩, _, 2147483629, rfl, rfl, (by show (0 : Int) < 2147483629; decide), ?_⟩
        obtain ⟨x, hx⟩ : ∃ x : Int, z ^ (3 : Int).toNat % 2147483629 = x := ⟨_, rfl⟩
        rw [hx] at l2 l3
        refine ⟨x, 5, congrArg V.int hx, rfl, ⟨by decide, by decide, by omega⟩, _, 1000000007, rfl, rfl, (by show (0 : Int) < 1000000007; decide), _, 7, rfl, rfl, ⟨by decide, by decide⟩, .int m, rfl, _, m, rfl, rfl, hm, ?_⟩
        refine q _ _ (Int.emod_nonneg _ (by omega)) (Int.emod_lt_of_pos _ hm) ⟨nac, cs, r, z, (by rw [← hz]; exact upd_same), ?_⟩ ?_
        · rw [upd_ne nac.symm]
          exact ec
        · intro b o n1 n2 eb
          rw [upd_ne n1]
          exact kp b o n1 n2 eb
/-! ### first_words -/
def spFw : Sp := fun vs H Q _ => vs = [] ∧ ∀ H' p, Same H H' → H p = none → H' p = some (.dK fwK) → Q (.ref p) H'
theorem ok_fw {f : Addr} {fd : FuncData} {k : Nat} (F : Fun K "_law_first_words" "_law_first_words" s_law_first_words f fd) : FnOk P w K mg base CX0 (k + 1) f fd [] spFw := by
  refine F.ok sc_law_first_words (fun vs H Q E h => ?_) (fun cdv A outer s H vs Q E hr h => ?_)
  · rw [h.1]
    rfl
  · obtain ⟨rfl, q⟩ := h
    refine ⟨_, pss_cons (ps_set (i := 0) sc_law_first_words.nd rfl (.inl rfl) (pe_disp (pps_cons pe_str pe_int (pps_cons pe_str pe_int (pps_cons pe_str pe_int (pps_cons pe_str pe_int (pps_cons pe_str pe_int (pps_cons pe_str pe_int pps_nil)))))) (by rfl) (by rfl) (fun z => by cases z) (by decide)))
      (pss_cons (ps_for PassesOwn.never rfl (pi_list (pe_lst (pa_cons pe_str (pa_cons pe_str (pa_cons pe_str (pa_cons pe_str (pa_cons pe_str pa_nil))))))) (pg_name (i := 1) sc_law_first_words.nd rfl (.inl rfl))
        (pss_one (ps_dput (hu_of hr) (pv 0) (pv 1) pe_int rfl)))
      (pss_one (ps_ret (pv 0)))), ?_⟩
    intro p hp
    refine ⟨upd_same, (fwK.take 6), rfl, by decide, ?_⟩
    refine ⟨by show 5 ≤ sizeLine; decide, fun l hl => ?_⟩
    rw [upd_upd] at hl ⊢
    have nlp : l ≠ p := fun e => by
      rw [e, upd_same] at hl
      cases hl
    have hl0 : H l = none := by
      rw [upd_ne nlp] at hl
      exact hl
    refine ⟨l, rfl, ⟨_, .inl (.inl upd_same)⟩, for_list (K := K) (a := l) (xs := [.str "and", .str "or", .str "xor", .str "add", .str "sub"]) (fun i σ H3 => ∃ y, σ = [some (.ref p), y] ∧ H3 p = some (.dK (fwK.take (6 + i))) ∧ H3 l = some (.lst [.str "and", .str "or", .str "xor", .str "add", .str "sub"]) ∧ Same H H3) ⟨none, rfl, ?_, upd_same, (same_new hp).trans (same_new hl)⟩ (fun i σ H3 _ hp => ?_) (fun i x σ H3 hx hq => ?_) (fun σ H3 hq => ?_)⟩
    · rw [upd_ne nlp.symm, upd_same]
      rfl
    · obtain ⟨y, _, _, e, _⟩ := hp
      exact .inl (.inl e)
    · obtain ⟨y, rfl, ep, el, sm⟩ := hq
      have hi : i < 5 := (List.getElem?_eq_some_iff.mp hx).1
      have hp3 : ∀ o, Same H (upd H3 p o) := fun o b u e => by
        rw [upd_ne (ne_of_none e hp)]
        exact sm b u e
      have hlen : (fwK.take (6 + i)).length < sizeLine := by
        rw [List.length_take]
        exact small1000 (by omega)
      obtain ⟨x0, rfl, ex⟩ : ∃ x0 : Str, x = .str x0 ∧ putK (fwK.take (6 + i)) (Sum.inr x0) (.int 2) = fwK.take (6 + (i + 1)) := by
        have : i = 0 ∨ i = 1 ∨ i = 2 ∨ i = 3 ∨ i = 4 := by omega
        rcases this with rfl | rfl | rfl | rfl | rfl <;> exact ⟨_, (Option.some.inj hx).symm, by decide +kernel⟩
      refine ⟨.ref p, rfl, .str x0, rfl, p, _, rfl, DPut.k (k := Sum.inr x0) ep hlen, some (.str x0), rfl, ?_, ?_, hp3 _⟩
      · rw [upd_same, ex]
      · rw [upd_ne nlp]
        exact el
    · obtain ⟨y, rfl, ep, el, sm⟩ := hq
      exact ⟨.ref p, rfl, q H3 p sm hp ep⟩
/-! ### deed -/
def spDeed : Sp := fun vs H Q _ => ∃ (a c : Addr) (m : Int), vs = [.ref a, .int m] ∧ 0 < m ∧ m ≤ 100 ∧ WL H a c ∧ ∀ H' r d, DeedOk m d → H' r = some (.tup (dV d)) → WL H' a c → Kp a c H H' → Q (.ref r) H'
theorem ok_deed {f fD fW : Addr} {fd fdD fdW : FuncData} {k : Nat} (F : Fun K "_law_deed" "_law_deed" s_law_deed f fd) (FD : Fun K "_law_draw" "_law_draw" s_law_draw fD fdD) (FW : Fun K "_law_first_words" "_law_first_words" s_law_first_words fW fdW)
    (bD : Binds K fdD ["well", "many"] []) (bW : Binds K fdW [] []) (gD : mg "_law_draw" = some (.ref fD)) (gW : mg "_law_first_words" = some (.ref fW)) (ml : mg "list" = none) (mt : mg "tuple" = none) (mr : mg "range" = none) :
    FnOk P w K mg base CX0 (k + 2) f fd ["well", "ahead"] spDeed := by
  have GD : FnOk P w K mg base CX0 (k + 1) fD fdD ["well", "many"] spDraw := ok_draw FD
  have GW : FnOk P w K mg base CX0 (k + 1) fW fdW [] spFw := ok_fw FW
  refine F.ok sc_law_deed (fun vs H Q E h => ?_) (fun cdv A outer s H vs Q E hr h => ?_)
  · obtain ⟨a, c, m, rfl, _⟩ := h
    rfl
  · obtain ⟨a, c, m, rfl, hm, hm2, hw, q⟩ := h
    refine ⟨_, pss_cons (ps_set (i := 2) sc_law_deed.nd rfl (.inl rfl) (pe_call0 GW hr (by rfl) gW FW.kp bW .nil pass0))
      (pss_cons (ps_set (i := 3) sc_law_deed.nd rfl (.inl rfl) (pe_ix ix_list (pe_callTy (call_list_dK rfl) (by rfl) ml (by decide +kernel) (pa_cons (pv 2) pa_nil)) (pe_call GD hr (by rfl) gD FD.kp bD .nil pass0 (pa_cons (pv 0) (pa_cons pe_int pa_nil))) (fun _ _ => rfl)))
      (pss_one (ps_ret (pe_op op_catT (pe_tup (pa_cons (pv 3) pa_nil)) (pe_callTy call_tuple_of (by rfl) mt (by decide +kernel) (pa_cons
        (pe_lc (own := [("k", 4)]) (g := gName 4) (by rfl) sc_law_deed.nd (pi_range1 (by rfl) mr (pa_cons (pe_dget (hu_of hr) (pv 2) (pv 3) (fun _ _ => rfl)) pa_nil)) (blkOk_by (own := [("k", 4)]) (N := N_law_deed) (sc := defScope s_law_deed) (by decide +kernel))
          (fun _ _ _ _ _ => pg_name (i := 4) sc_law_deed.nd rfl (Or.inl rfl)) (fun _ _ _ _ _ => pts_nil)
          (fun _ _ _ _ _ => pe_call GD hr (by rfl) gD FD.kp bD .nil pass0 (pa_cons (pv 0) (pa_cons (pv 1) pa_nil)))) pa_nil)))))), ?_⟩
    refine ⟨rfl, fun H1 p s1 hp e1 => ?_⟩
    refine ⟨.ref p, rfl, p, _, rfl, e1, fun L hL => ?_⟩
    have w1 : WL H1 a c := hw.same s1
    obtain ⟨nLa, nLc⟩ := w1.ne_new hL
    have nLp : L ≠ p := fun e => by
      rw [e, e1] at hL
      cases hL
    obtain ⟨npa, npc⟩ := hw.ne_new hp
    refine ⟨.ref a, rfl, a, c, 11, rfl, by decide, by decide, w1.upd nLa nLc, fun H2 z z0 z1 w2 k2 => ?_⟩
    obtain ⟨x, n, hmem, n0, n2, hat, hval⟩ := fw_at z0 z1
    have eL2 : H2 L = some (.lst (fwK.map fun kv => kV kv.1)) := k2 _ _ nLa nLc upd_same
    have ep2 : H2 p = some (.dK fwK) := k2 _ _ npa npc (by rw [upd_ne nLp.symm]; exact e1)
    refine ⟨L, _, z, .str x, rfl, rfl, .inl (.inl eL2), hat, ?_⟩
    refine ⟨.str x, rfl, by show 1 ≤ sizeLine; decide, fun U hU => ?_⟩
    obtain ⟨nUa, nUc⟩ := w2.ne_new hU
    have w3 : WL (upd H2 U (.tup [.str x])) a c := w2.upd nUa nUc
    have nUp : p ≠ U := ne_of_none ep2 hU
    refine ⟨.ref p, rfl, .str x, rfl, p, .int n, rfl, ?_, ?_⟩
    · rw [← hval]
      exact DGet.k (k := Sum.inr x) (by rw [upd_ne nUp]; exact ep2)
    have kH : Kp a c H (upd H2 U (.tup [.str x])) := fun b o n1 n2 e => by
      have e3 := k2 b o n1 n2 (by rw [upd_ne (ne_of_none (s1 b o e) hL)]; exact s1 b o e)
      rw [upd_ne (ne_of_none e3 hU)]
      exact e3
    refine ⟨n, rfl, by omega, by omega, fun D hD => ?_⟩
    obtain ⟨nDa, nDc⟩ := w3.ne_new hD
    have eU3 : upd H2 U (.tup [.str x]) U = some (.tup [.str x]) := upd_same
    have nDU : U ≠ D := ne_of_none eU3 hD
    refine lc_range (lo := 0) (n := n.toNat) (fun i H4 => ∃ zs : List Int, zs.length = i ∧ (∀ y ∈ zs, 0 ≤ y ∧ y < m) ∧ H4 D = some (.lst (zs.map V.int)) ∧ H4 U = some (.tup [.str x]) ∧ WL H4 a c ∧ Kp a c H H4) ⟨[], rfl, (fun _ z => nomatch z), upd_same, ?_, w3.upd nDa nDc, kH.trans (Same.kp (same_new hD))⟩ (fun i H4 hi hp => ?_) (fun H4 hp => ?_)
    · rw [upd_ne nDU]
      exact eU3
    · obtain ⟨zs, hz, hb, eD, eU, w4, k4⟩ := hp
      refine ⟨rfl, .ref a, rfl, .int m, rfl, a, c, m, rfl, hm, by omega, w4, fun H5 y y0 y1 w5 k5 => ?_⟩
      have eD5 := k5 _ _ nDa nDc eD
      refine ⟨_, eD5, ?_, zs ++ [y], ?_, ?_, ?_, ?_, w5.upd nDa nDc, ?_⟩
      · rw [List.length_map]
        exact small1000 (by omega)
      · rw [List.length_append, hz]
        rfl
      · intro y' hy'
        rcases List.mem_append.mp hy' with h | h
        · exact hb y' h
        · rw [List.mem_singleton.mp h]
          exact ⟨y0, y1⟩
      · rw [upd_same, List.map_append]
        rfl
      · rw [upd_ne nDU]
        exact k5.tup w4 eU
      · intro b o n1 n2 e
        have nbD : b ≠ D := by
          intro z
          have z1 := kH b o n1 n2 e
          rw [z, hD] at z1
          cases z1
        rw [upd_ne nbD]
        exact k5 b o n1 n2 (k4 b o n1 n2 e)
    · obtain ⟨zs, hz, hb, eD, eU, w4, k4⟩ := hp
      refine ⟨D, _, rfl, .inl ⟨.inl (.inl eD), fun T hT => ?_⟩⟩
      obtain ⟨nTa, nTc⟩ := w4.ne_new hT
      have sT : Same H4 (upd H4 T (.tup (zs.map V.int))) := same_new hT
      have eU6 : upd H4 T (.tup (zs.map V.int)) U = some (.tup [.str x]) := sT _ _ eU
      have hl : (zs.length : Int) = n := by omega
      have ok : DeedOk m (x, zs) := ⟨by rw [show ((x, zs) : Deed).2.length = zs.length from rfl, hl]; exact hmem, hb⟩
      refine ⟨U, T, _, _, rfl, rfl, SqT.of eU6, SqT.of upd_same, (fun z => nomatch z), ?_, fun e => ?_, fun e p hp => ?_⟩
      · rw [List.length_map]
        exact Nat.le_of_lt (small1000 (by show 1 + zs.length ≤ 1000; omega))
      · have e0 : zs = [] := List.map_eq_nil_iff.mp e
        refine q _ U (x, zs) ok ?_ (w4.upd nTa nTc) (k4.trans (Same.kp sT))
        rw [e0]
        rw [e0] at eU6
        exact eU6
      · have w6 := w4.upd (o := .tup (zs.map V.int)) nTa nTc
        obtain ⟨n1, n2⟩ := w6.ne_new hp
        exact q _ p (x, zs) ok upd_same (w6.upd n1 n2) ((k4.trans (Same.kp sT)).trans (Same.kp (same_new hp)))
/-! ### row -/
def spRow : Sp := fun vs H Q _ => ∃ (a c : Addr) (m n : Int), vs = [.ref a, .int m, .int n] ∧ 1 ≤ m ∧ m ≤ 3 ∧ 0 ≤ n ∧ n ≤ 8 ∧ WL H a c ∧
  ∀ H' R ds o, RowAt H' R m ds o → RowOk m ds o → (ds.length : Int) ≤ n → WL H' a c → Kp a c H H' → Q (.ref R) H'
theorem ok_row {f fD fE : Addr} {fd fdD fdE : FuncData} {k : Nat} (F : Fun K "_law_row" "_law_row" s_law_row f fd) (GD : FnOk P w K mg base CX0 (k + 1) fD fdD ["well", "many"] spDraw) (kD : PySem.W.keepIn K (.ref fD) = true)
    (GE : FnOk P w K mg base CX0 (k + 2) fE fdE ["well", "ahead"] spDeed) (kE : PySem.W.keepIn K (.ref fE) = true)
    (bD : Binds K fdD ["well", "many"] []) (bE : Binds K fdE ["well", "ahead"] []) (gD : mg "_law_draw" = some (.ref fD)) (gE : mg "_law_deed" = some (.ref fE)) (mt : mg "tuple" = none) (mr : mg "range" = none) :
    FnOk P w K mg base CX0 (k + 3) f fd ["well", "many", "most"] spRow := by
  refine F.ok sc_law_row (fun vs H Q E h => ?_) (fun cdv A outer s H vs Q E hr h => ?_)
  · obtain ⟨a, c, m, n, rfl, _⟩ := h
    rfl
  · obtain ⟨a, c, m, n, rfl, hm, hm2, hn, hn2, hw, q⟩ := h
    have hr1 := hr.mono (show k + 1 ≤ k + 2 by omega)
    refine ⟨_, pss_cons (ps_set (i := 3) sc_law_row.nd rfl (.inl rfl) (pe_call GD hr1 (by rfl) gD kD bD .nil pass0 (pa_cons (pv 0) (pa_cons (pe_op op_add (pv 2) pe_int) pa_nil))))
      (pss_cons (ps_set (i := 4) sc_law_row.nd rfl (.inl rfl) (pe_cmpR op_gt (pe_call GD hr1 (by rfl) gD kD bD .nil pass0 (pa_cons (pv 0) (pa_cons pe_int pa_nil))) pe_int (nomark _)))
      (pss_cons (ps_set (i := 5) sc_law_row.nd rfl (.inl rfl) (pe_lst pa_nil))
      (pss_cons (ps_for PassesOwn.never rfl (pi_range1 (by rfl) mr (pa_cons (pv 3) pa_nil)) (pg_name (i := 6) sc_law_row.nd rfl (.inl rfl))
        (pss_one (ps_expr (pe_bm PySem.F.plainAttrs_list PySem.F.slot_list_append PySem.F.type_list_append mt_append (pv 5) (pa_cons (pe_call GE hr (by rfl) gE kE bE .nil pass0 (pa_cons (pv 0) (pa_cons (pe_op op_add (pv 1) (pv 6)) pa_nil))) pa_nil)))))
      (pss_cons (ps_set (i := 7) sc_law_row.nd rfl (.inl rfl) (pe_op op_sub (pe_op op_add (pv 1) (pv 3)) pe_int))
      (pss_mid (ps_if (pt_not (pt_val (pv 4))) (pss_one (ps_set (i := 7) sc_law_row.nd rfl (.inl rfl) (pe_call GD hr1 (by rfl) gD kD bD .nil pass0 (pa_cons (pv 0) (pa_cons (pe_op op_add (pv 1) (pv 3)) pa_nil))))) pss_nil)
      (pss_one (ps_ret (pe_tup (pa_cons (pv 1) (pa_cons (pe_callTy call_tuple_of (by rfl) mt (by decide +kernel) (pa_cons (pv 5) pa_nil)) (pa_cons (pv 7) pa_nil))))))))))), ?_⟩
    refine ⟨.ref a, rfl, .int n, rfl, n, 1, rfl, rfl, a, c, n + 1, rfl, by omega, by omega, hw, fun H1 sz z0 z1 w1 k1 => ?_⟩
    refine ⟨.ref a, rfl, a, c, 4, rfl, by decide, by decide, w1, fun H2 la l0 l1 w2 k2 => ?_⟩
    refine ⟨la, 0, rfl, rfl, Nat.zero_le _, fun D hD => ?_⟩
    obtain ⟨nDa, nDc⟩ := w2.ne_new hD
    have kH : Kp a c H H2 := k1.trans k2
    refine ⟨.int sz, rfl, sz, rfl, by omega, by omega, for_range (lo := 0) (n := sz.toNat) (fun i σ H3 => ∃ y rs ds, σ = [some (.ref a), some (.int m), some (.int n), some (.int sz), some (.bl (decide (la > 0))), some (.ref D), y, none] ∧ H3 D = some (.lst (rs.map V.ref)) ∧ DsAt H3 rs ds ∧ ds.length = i ∧ DsOk m ds ∧ WL H3 a c ∧ Kp a c H H3)
      ⟨none, [], [], rfl, upd_same, .nil, rfl, ⟨fun k d e => by simp at e⟩, w2.upd nDa nDc, kH.trans (Same.kp (same_new hD))⟩ (fun i σ H3 hi hp => ?_) (fun σ H3 hp => ?_)⟩
    · obtain ⟨y, rs, ds, rfl, eD, hd, hl, ok, w3, k3⟩ := hp
      refine ⟨.ref D, rfl, .inl ⟨rfl, _, .inl (.inl eD)⟩, .ref a, rfl, .int m, rfl, .int (0 + i), rfl, m, 0 + i, rfl, rfl, a, c, _, rfl, by omega, by omega, w3, fun H4 r d hok er w4 k4 => ?_⟩
      have eD4 := k4 _ _ nDa nDc eD
      refine ⟨D, _, _, rfl, rfl, eD4, ?_, some (.int (0 + i)), rs ++ [r], ds ++ [d], rfl, ?_, ?_, ?_, ?_, w4.upd nDa nDc, ?_⟩
      · rw [List.length_map, awLen hd]
        exact small1000 (by omega)
      · rw [upd_same, List.map_append]
        rfl
      · exact (tups_put eD4).ds (awSnoc (F := fun r d => H4 r = some (.tup (dV d))) er ((k4.tups w3).ds hd))
      · rw [List.length_append, hl]
        rfl
      · refine dsOk_snoc ok ?_
        rw [hl]
        have : m + (0 + (i : Int)) = m + i := by omega
        rw [this] at hok
        exact hok
      · intro b o n1 n2 e
        have nbD : b ≠ D := by
          intro z
          have z1 := kH b o n1 n2 e
          rw [z, hD] at z1
          cases z1
        rw [upd_ne nbD]
        exact k4 b o n1 n2 (k3 b o n1 n2 e)
    · obtain ⟨y, rs, ds, rfl, eD, hd, hl, ok, w3, k3⟩ := hp
      refine ⟨.int m, rfl, .int sz, rfl, m, sz, rfl, rfl, _, 1, rfl, rfl, ?_⟩
      refine ⟨fun σ4 H4 => ∃ o, σ4 = [some (.ref a), some (.int m), some (.int n), some (.int sz), some (.bl (decide (la > 0))), some (.ref D), y, some (.int o)] ∧ 0 ≤ o ∧ o < m + sz ∧ H4 D = some (.lst (rs.map V.ref)) ∧ DsAt H4 rs ds ∧ WL H4 a c ∧ Kp a c H H4, ?_, ?_⟩
      · refine ⟨_, rfl, _, rfl, ?_⟩
        by_cases hla : la > 0
        · rw [decide_eq_true hla]
          exact ⟨m + sz - 1, rfl, by omega, by omega, eD, hd, w3, k3⟩
        · rw [decide_eq_false hla]
          refine ⟨.ref a, rfl, .int m, rfl, .int sz, rfl, m, sz, rfl, rfl, a, c, _, rfl, by omega, by omega, w3, fun H4 o o0 o1 w4 k4 => ?_⟩
          exact ⟨o, rfl, o0, o1, k4 _ _ nDa nDc eD, (k4.tups w3).ds hd, w4, k3.trans k4⟩
      · rintro σ4 H4 ⟨o, rfl, o0, o1, eD4, hd4, w4, k4⟩
        refine ⟨.int m, rfl, .ref D, rfl, D, _, rfl, .inl ⟨.inl (.inl eD4), fun T hT => ?_⟩⟩
        refine ⟨.int o, rfl, by show 3 ≤ sizeLine; decide, fun R hR => ?_⟩
        have s1 : Same H4 (upd H4 T (.tup (rs.map V.ref))) := same_new hT
        have s2 := same_new (o := .tup [.int m, .ref T, .int o]) hR
        obtain ⟨n1, n2⟩ := w4.ne_new hT
        have w5 := w4.upd (o := .tup (rs.map V.ref)) n1 n2
        obtain ⟨n3, n4⟩ := w5.ne_new hR
        refine q _ R ds o ⟨T, rs, upd_same, s2 _ _ upd_same, (Same.tups (s1.trans s2)).ds hd4⟩ ⟨hm, hm2, by omega, ok, o0, by omega⟩ (by omega) (w5.upd n3 n4) (k4.trans (Same.kp (s1.trans s2)))
/-! ### first_carry -/
def spFc : Sp := fun vs H Q _ => ∃ (R : Addr) (m o : Int) (ds : List Deed), vs = [.ref R] ∧ RowAt H R m ds o ∧ ds.length ≤ 100 ∧ ∀ H' p, Same H H' → H p = none → H' p = some (.tup ((ds.map fcD).map V.int)) → Q (.ref p) H'
theorem ok_fc {f : Addr} {fd : FuncData} {k : Nat} (F : Fun K "first_carry" "first_carry" s_first_carry f fd) (mt : mg "tuple" = none) : FnOk P w K mg base CX0 (k + 1) f fd ["row"] spFc := by
  refine F.ok sc_first_carry (fun vs H Q E h => ?_) (fun cdv A outer s H vs Q E hr h => ?_)
  · obtain ⟨R, m, o, ds, rfl, _⟩ := h
    rfl
  · obtain ⟨R, m, o, ds, rfl, hrow, hl, q⟩ := h
    obtain ⟨D, rs, eR, eD, hd⟩ := id hrow
    refine ⟨_, pss_one (ps_ret (pe_callTy call_tuple_of (by rfl) mt (by decide +kernel) (pa_cons
      (pe_lc (own := [("deed", 1)]) (g := gName 1) (by rfl) sc_first_carry.nd (pi_tup (pe_ix ix_tup (pv 0) pe_int (fun _ _ => rfl))) (blkOk_by (own := [("deed", 1)]) (N := N_first_carry) (sc := defScope s_first_carry) (by decide +kernel))
        (fun _ _ _ _ _ => pg_name (i := 1) sc_first_carry.nd rfl (Or.inl rfl)) (fun _ _ _ _ _ => pts_nil)
        (fun _ _ _ _ _ => pe_ifExp (pt_cmpR (r := rIn K false) op_in_seq (pe_ix (r := rIxT K) ix_tup (pv 1) pe_int (fun _ _ => rfl)) (pe_tup (pa_cons pe_str (pa_cons pe_str pa_nil))) (by rfl)) pe_int pe_int)) pa_nil))), ?_⟩
    refine ⟨.ref R, rfl, R, _, 1, .ref D, rfl, rfl, SqT.of eR, rfl, D, rfl, ⟨_, SqT.of eD⟩, fun L hL => ?_⟩
    refine lc_tup (K := K) (a := D) (xs := rs.map V.ref) (fun i H4 => H4 L = some (.lst (((ds.take i).map fcD).map V.int)) ∧ Same H H4) ⟨upd_same, same_new hL⟩ (fun i H4 _ hp => SqT.of (hp.2 _ _ eD)) (fun i x H4 hx hp => ?_) (fun H4 hp => ?_)
    · obtain ⟨eL, sm⟩ := hp
      have hi : i < rs.length := by
        have := (List.getElem?_eq_some_iff.mp hx).1
        rwa [List.length_map] at this
      have hx' : x = .ref rs[i] := by
        rw [List.getElem?_map, List.getElem?_eq_getElem hi] at hx
        exact (Option.some.inj hx).symm
      subst hx'
      obtain ⟨d, hd1, hd2⟩ := awGet hd (List.getElem?_eq_getElem hi)
      refine ⟨rfl, .ref rs[i], rfl, rs[i], _, 0, .str d.1, rfl, rfl, SqT.of (sm _ _ hd2), dv0 d, by show 2 ≤ sizeLine; decide, fun T hT => ?_⟩
      have sT := same_new (o := .tup [.str "neg", .str "one"]) hT
      have eL2 := sT _ _ eL
      have old : ∀ o, Same H (upd (upd H4 T (.tup [.str "neg", .str "one"])) L o) := fun o b u e => by
        rw [upd_ne (ne_of_none e hL)]
        exact sT b u (sm b u e)
      have small : (((ds.take i).map fcD).map V.int).length < sizeLine := by
        rw [List.length_map, List.length_map, List.length_take]
        exact small1000 (by omega)
      have hin := inS d.1 ["neg", "one"]
      refine ⟨T, _, rfl, .inr (SqT.of upd_same), rfl, rfl, _, rfl, ite2 (fun e => ?_) (fun e => ?_)⟩
      · have hm : d.1 ∈ (["neg", "one"] : List Str) := of_decide_eq_true (hin.symm.trans e)
        have e1 : fcD d = 1 := if_pos hm
        refine ⟨_, eL2, small, ?_, old _⟩
        rw [upd_same, List.take_add_one, hd1]
        simp [e1]
      · have hm : ¬ d.1 ∈ (["neg", "one"] : List Str) := fun z => e (hin.trans (decide_eq_true z))
        have e1 : fcD d = 0 := if_neg hm
        refine ⟨_, eL2, small, ?_, old _⟩
        rw [upd_same, List.take_add_one, hd1]
        simp [e1]
    · obtain ⟨eL, sm⟩ := hp
      rw [List.length_map, awLen hd, List.take_length] at eL
      refine ⟨L, _, rfl, .inl ⟨.inl (.inl eL), fun p hp => ?_⟩⟩
      exact q _ p (sm.trans (same_new hp)) (sm.free hp) upd_same
/-! ### deed_bit, bits_of -/
def spDb (K : PySem.W.Frag) : Sp := fun vs H Q _ => ∃ (r L : Addr) (d : Deed) (told : List Int) (c : Int), vs = [.ref r, .int c, .ref L] ∧ H r = some (.tup (dV d)) ∧ SqL K H L (told.map V.int) ∧ DeedOk told.length d ∧ Q (.int (dbitAt d c told)) H
theorem ok_db {f : Addr} {fd : FuncData} {k : Nat} (F : Fun K "deed_bit" "deed_bit" s_deed_bit f fd) : FnOk P w K mg base CX0 (k + 1) f fd ["deed", "held", "told"] (spDb K) := by
  refine F.ok sc_deed_bit (fun vs H Q E h => ?_) (fun cdv A outer s H vs Q E hr h => ?_)
  · obtain ⟨r, L, d, told, c, rfl, _⟩ := h
    rfl
  · obtain ⟨r, L, d, told, c, rfl, er, eL, ok, q⟩ := h
    refine ⟨_, pss_cons (ps_set (i := 3) sc_deed_bit.nd rfl (.inl rfl) (pe_ix ix_tup (pv 0) pe_int (fun _ _ => rfl)))
      (pss_cons (ps_if (pt_cmpR op_eq (pv 3) pe_str (nomark _)) (pss_one (ps_ret pe_int)) pss_nil)
      (pss_cons (ps_if (pt_cmpR op_eq (pv 3) pe_str (nomark _)) (pss_one (ps_ret pe_int)) pss_nil)
      (pss_cons (ps_if (PW.pt (pw_or (pt_cmpR op_eq (pv 3) pe_str (nomark _)) (pw_or1 (pt_cmpR op_eq (pv 3) pe_str (nomark _))))) (pss_one (ps_ret (pv 1))) pss_nil)
      (pss_cons (ps_set (i := 4) sc_deed_bit.nd rfl (.inl rfl) (pe_ix ix_list (pv 2) (pe_ix ix_tup (pv 0) pe_int (fun _ _ => rfl)) (fun _ _ => rfl)))
      (pss_cons (ps_if (pt_cmpR op_eq (pv 3) pe_str (nomark _)) (pss_one (ps_ret (pe_op op_sub pe_int (pv 4)))) pss_nil)
      (pss_cons (ps_if (pt_cmpR op_eq (pv 3) pe_str (nomark _)) (pss_one (ps_ret (pe_op op_xor (pe_op op_sub pe_int (pv 4)) (pv 1)))) pss_nil)
      (pss_cons (ps_set (i := 5) sc_deed_bit.nd rfl (.inl rfl) (pe_ix ix_list (pv 2) (pe_ix ix_tup (pv 0) pe_int (fun _ _ => rfl)) (fun _ _ => rfl)))
      (pss_cons (ps_if (pt_cmpR op_eq (pv 3) pe_str (nomark _)) (pss_one (ps_ret (pe_op op_and (pv 4) (pv 5)))) pss_nil)
      (pss_cons (ps_if (pt_cmpR op_eq (pv 3) pe_str (nomark _)) (pss_one (ps_ret (pe_op op_or (pv 4) (pv 5)))) pss_nil)
      (pss_cons (ps_if (pt_cmpR op_eq (pv 3) pe_str (nomark _)) (pss_one (ps_ret (pe_op op_xor (pv 4) (pv 5)))) pss_nil)
      (pss_one (ps_ret (pe_op op_xor (pe_op op_xor (pv 4) (pv 5)) (pv 1)))))))))))))), ?_⟩
    unfold dbitAt dbit at q
    refine ⟨.ref r, rfl, r, _, 0, .str d.1, rfl, rfl, SqT.of er, dv0 d, ?_⟩
    refine ⟨.str d.1, rfl, rfl, _, rfl, ite2 (fun e => ?_) (fun n1 => ?_)⟩
    · rw [if_pos (strEq e)] at q
      exact q
    rw [if_neg (strNe n1)] at q
    refine ⟨.str d.1, rfl, rfl, _, rfl, ite2 (fun e => ?_) (fun n2 => ?_)⟩
    · rw [if_pos (strEq e)] at q
      exact q
    rw [if_neg (strNe n2)] at q
    refine ⟨.str d.1, rfl, rfl, _, rfl, ite2 (fun e => ?_) (fun n3 => ?_)⟩
    · rw [if_pos (strEq e)] at q
      exact ⟨.int c, rfl, q⟩
    rw [if_neg (strNe n3)] at q
    refine ⟨.str d.1, rfl, rfl, _, rfl, ite2 (fun e => ?_) (fun n4 => ?_)⟩
    · rw [if_pos (strEq e)] at q
      exact ⟨.int c, rfl, q⟩
    rw [if_neg (strNe n4)] at q
    obtain ⟨i, hi, ai, ei⟩ := arg1 ok (strNe n1) (strNe n3) (strNe n2)
    refine ⟨.ref L, rfl, .ref r, rfl, r, _, 1, .int i, rfl, rfl, SqT.of er, dvN (k := 0) hi, L, _, i, .int (argAt d told 0), rfl, rfl, eL, ei, ?_⟩
    refine ⟨.str d.1, rfl, rfl, _, rfl, ite2 (fun e => ?_) (fun n5 => ?_)⟩
    · rw [if_pos (strEq e)] at q
      exact ⟨.int _, rfl, 1, _, rfl, rfl, q⟩
    rw [if_neg (strNe n5)] at q
    refine ⟨.str d.1, rfl, rfl, _, rfl, ite2 (fun e => ?_) (fun n6 => ?_)⟩
    · rw [if_pos (strEq e)] at q
      exact ⟨.int _, rfl, 1, _, rfl, rfl, .int c, rfl, _, _, rfl, rfl, q⟩
    rw [if_neg (strNe n6)] at q
    obtain ⟨j, hj, aj, ej⟩ := arg2 ok (strNe n1) (strNe n3) (strNe n2) (strNe n5) (strNe n6) (strNe n4)
    refine ⟨.ref L, rfl, .ref r, rfl, r, _, 2, .int j, rfl, rfl, SqT.of er, dvN (k := 1) hj, L, _, j, .int (argAt d told 1), rfl, rfl, eL, ej, ?_⟩
    refine ⟨.str d.1, rfl, rfl, _, rfl, ite2 (fun e => ?_) (fun n7 => ?_)⟩
    · rw [if_pos (strEq e)] at q
      exact ⟨.int _, rfl, .int _, rfl, _, _, rfl, rfl, q⟩
    rw [if_neg (strNe n7)] at q
    refine ⟨.str d.1, rfl, rfl, _, rfl, ite2 (fun e => ?_) (fun n8 => ?_)⟩
    · rw [if_pos (strEq e)] at q
      exact ⟨.int _, rfl, .int _, rfl, _, _, rfl, rfl, q⟩
    rw [if_neg (strNe n8)] at q
    refine ⟨.str d.1, rfl, rfl, _, rfl, ite2 (fun e => ?_) (fun n9 => ?_)⟩
    · rw [if_pos (strEq e)] at q
      exact ⟨.int _, rfl, .int _, rfl, _, _, rfl, rfl, q⟩
    rw [if_neg (strNe n9)] at q
    exact ⟨.int _, rfl, .int _, rfl, _, _, rfl, rfl, .int c, rfl, _, _, rfl, rfl, q⟩
def spBo : Sp := fun vs H Q _ => ∃ (R C B : Addr) (m o : Int) (ds : List Deed) (cs bs : List Int), vs = [.ref R, .ref C, .ref B] ∧ RowAt H R m ds o ∧ DsOk m ds ∧ ds.length ≤ 100 ∧ H C = some (.tup (cs.map V.int)) ∧ cs.length = ds.length ∧ H B = some (.tup (bs.map V.int)) ∧ (bs.length : Int) = m ∧ bs.length ≤ 100 ∧
  ∀ H' p, Same H H' → H p = none → H' p = some (.tup ((bts ds cs bs).map V.int)) → Q (.ref p) H'
theorem ok_bo {f fB : Addr} {fd fdB : FuncData} {k : Nat} (F : Fun K "bits_of" "bits_of" s_bits_of f fd) (GB : FnOk P w K mg base CX0 (k + 1) fB fdB ["deed", "held", "told"] (spDb K)) (kB : PySem.W.keepIn K (.ref fB) = true) (bB : Binds K fdB ["deed", "held", "told"] []) (gB : mg "deed_bit" = some (.ref fB))
    (ml : mg "list" = none) (mt : mg "tuple" = none) (mz : mg "zip" = none) : FnOk P w K mg base CX0 (k + 2) f fd ["row", "carry", "bits"] spBo := by
  refine F.ok sc_bits_of (fun vs H Q E h => ?_) (fun cdv A outer s H vs Q E hr h => ?_)
  · obtain ⟨R, C, B, m, o, ds, cs, bs, rfl, _⟩ := h
    rfl
  · obtain ⟨R, C, B, m, o, ds, cs, bs, rfl, hrow, hok, hds, eC, hcl, eB, hm, hbl, q⟩ := h
    obtain ⟨D, rs, eR, eD, hd⟩ := id hrow
    refine ⟨_, pss_cons (ps_set (i := 3) sc_bits_of.nd rfl (.inl rfl) (pe_callTy call_list_of (by rfl) ml (by decide +kernel) (pa_cons (pv 2) pa_nil)))
      (pss_cons (ps_for PassesOwn.never rfl (RZ.pi_zipA (by rfl) mz (pa_cons (pe_ix ix_tup (pv 0) pe_int (fun _ _ => rfl)) (pa_cons (pv 1) pa_nil))) (pg_tup rfl (pgs_cons (pg_name (i := 4) sc_bits_of.nd rfl (.inl rfl)) (pgs_cons (pg_name (i := 5) sc_bits_of.nd rfl (.inl rfl)) pgs_nil)))
        (pss_one (ps_expr (pe_bm PySem.F.plainAttrs_list PySem.F.slot_list_append PySem.F.type_list_append mt_append (pv 3) (pa_cons (pe_call GB hr (by rfl) gB kB bB .nil pass0 (pa_cons (pv 4) (pa_cons (pv 5) (pa_cons (pv 3) pa_nil)))) pa_nil)))))
      (pss_one (ps_ret (pe_callTy call_tuple_of (by rfl) mt (by decide +kernel) (pa_cons (pv 3) pa_nil))))), ?_⟩
    refine ⟨.ref B, rfl, B, _, rfl, .inr (SqT.of eB), fun L hL => ?_⟩
    have sL := same_new (o := .lst (bs.map V.int)) hL
    have lrs : (rs.map V.ref).length = ds.length := by rw [List.length_map, awLen hd]
    have lcs : (cs.map V.int).length = ds.length := by rw [List.length_map, hcl]
    refine ⟨.ref R, rfl, R, _, 1, .ref D, rfl, rfl, SqT.of (sL _ _ eR), rfl, .ref C, rfl, D, C, _, _, rfl, .inr ⟨SqT.of (sL _ _ eD), SqT.of (sL _ _ eC), RZ.for_zipT (K := K) (xs := rs.map V.ref) (ys := cs.map V.int) (lrs.trans lcs.symm) (fun i σ H3 => ∃ y4 y5, σ = [some (.ref R), some (.ref C), some (.ref B), some (.ref L), y4, y5] ∧ H3 L = some (.lst ((bts (ds.take i) (cs.take i) bs).map V.int)) ∧ Same H H3) ⟨none, none, rfl, by rw [upd_same]; cases ds <;> rfl, sL⟩ (fun i σ H3 hp => ?_) (fun i x y T σ H3 hx hy hp hT => ?_) (fun σ H3 hp => ?_)⟩⟩
    · obtain ⟨_, _, _, _, sm⟩ := hp
      exact ⟨SqT.of (sm _ _ eD), SqT.of (sm _ _ eC)⟩
    · obtain ⟨y4, y5, rfl, e3, sm⟩ := hp
      have hi : i < rs.length := by
        have := (List.getElem?_eq_some_iff.mp hx).1
        rwa [List.length_map] at this
      have hx' : x = .ref rs[i] := by
        rw [List.getElem?_map, List.getElem?_eq_getElem hi] at hx
        exact (Option.some.inj hx).symm
      subst hx'
      obtain ⟨d, hd1, hd2⟩ := awGet hd (List.getElem?_eq_getElem hi)
      obtain ⟨c, hc, rfl⟩ : ∃ c, cs[i]? = some c ∧ y = .int c := by
        rw [List.getElem?_map] at hy
        cases e : cs[i]? with
        | none => rw [e] at hy; cases hy
        | some c => rw [e] at hy; exact ⟨c, rfl, (Option.some.inj hy).symm⟩
      have h2 : i < ds.length := by
        rw [← awLen hd]
        exact hi
      have hlen : (bts (ds.take i) (cs.take i) bs).length = bs.length + i := by
        rw [bts_len (by rw [List.length_take, List.length_take, hcl]), List.length_take, Nat.min_eq_left (Nat.le_of_lt h2)]
      have okd : DeedOk (bts (ds.take i) (cs.take i) bs).length d := by
        rw [hlen]
        have := hok.each i d hd1
        rw [← hm] at this
        exact this
      have sT := same_new (o := .tup [.ref rs[i], .int c]) hT
      have e4 := sT _ _ e3
      refine ⟨T, [.ref rs[i], .int c], rfl, .inl (.inl upd_same), rfl, .ref rs[i], [.int c], rfl, .int c, [], rfl, rfl, ?_⟩
      refine ⟨.ref L, rfl, .inl ⟨rfl, _, .inl (.inl e4)⟩, .ref rs[i], rfl, .int c, rfl, .ref L, rfl, rs[i], L, d, _, c, rfl, sT _ _ (sm _ _ hd2), .inl (.inl e4), okd, L, _, _, rfl, rfl, e4, ?_, some (.ref rs[i]), some (.int c), rfl, ?_, ?_⟩
      · rw [List.length_map, hlen]
        exact small1000 (by omega)
      · rw [upd_same, bts_next hd1 hc, List.map_append]
        rfl
      · intro b u e
        rw [upd_ne (ne_of_none e hL)]
        exact sT b u (sm b u e)
    · obtain ⟨y4, y5, rfl, e3, sm⟩ := hp
      rw [lrs, List.take_length, ← hcl, List.take_length] at e3
      refine ⟨.ref L, rfl, L, _, rfl, .inl ⟨.inl (.inl e3), fun p hp => ?_⟩⟩
      exact q _ p (sm.trans (same_new hp)) (sm.free hp) upd_same
/-! ### two_or_more, deed_carry -/
def spTm : Sp := fun vs H Q _ => ∃ a b c : Int, vs = [.int a, .int b, .int c] ∧ Q (.int ((a + b + c) / 2)) H
theorem ok_tm {f : Addr} {fd : FuncData} {k : Nat} (F : Fun K "two_or_more" "two_or_more" s_two_or_more f fd) : FnOk P w K mg base CX0 (k + 1) f fd ["one", "other", "third"] spTm := by
  refine F.ok sc_two_or_more (fun vs H Q E h => ?_) (fun cdv A outer s H vs Q E hr h => ?_)
  · obtain ⟨a, b, c, rfl, _⟩ := h
    rfl
  · obtain ⟨a, b, c, rfl, q⟩ := h
    refine ⟨_, pss_one (ps_ret (pe_op op_fdiv (pe_op op_add (pe_op op_add (pv 0) (pv 1)) (pv 2)) pe_int)), ?_⟩
    exact ⟨.int a, rfl, .int b, rfl, a, b, rfl, rfl, .int c, rfl, _, c, rfl, rfl, _, 2, rfl, rfl, ⟨by decide, by decide⟩, q⟩
def spDc : Sp := fun vs H Q _ => ∃ (r L : Addr) (d : Deed) (told : List Int) (c : Int), vs = [.ref r, .int c, .ref L] ∧ H r = some (.tup (dV d)) ∧ H L = some (.tup (told.map V.int)) ∧ DeedOk told.length d ∧ Q (.int (dcarAt d c told)) H
theorem ok_dc {f fT : Addr} {fd fdT : FuncData} {k : Nat} (F : Fun K "deed_carry" "deed_carry" s_deed_carry f fd) (GT : FnOk P w K mg base CX0 (k + 1) fT fdT ["one", "other", "third"] spTm) (kT : PySem.W.keepIn K (.ref fT) = true) (bT : Binds K fdT ["one", "other", "third"] []) (gT : mg "two_or_more" = some (.ref fT)) :
    FnOk P w K mg base CX0 (k + 2) f fd ["deed", "held", "told"] spDc := by
  refine F.ok sc_deed_carry (fun vs H Q E h => ?_) (fun cdv A outer s H vs Q E hr h => ?_)
  · obtain ⟨r, L, d, told, c, rfl, _⟩ := h
    rfl
  · obtain ⟨r, L, d, told, c, rfl, er, eL, ok, q⟩ := h
    refine ⟨_, pss_cons (ps_set (i := 3) sc_deed_carry.nd rfl (.inl rfl) (pe_ix ix_tup (pv 0) pe_int (fun _ _ => rfl)))
      (pss_cons (ps_if (pt_cmpR op_eq (pv 3) pe_str (nomark _)) (pss_one (ps_ret (pe_op op_and (pe_op op_sub pe_int (pe_ix ix_tup (pv 2) (pe_ix ix_tup (pv 0) pe_int (fun _ _ => rfl)) (fun _ _ => rfl))) (pv 1)))) pss_nil)
      (pss_cons (ps_if (pt_cmpR op_eq (pv 3) pe_str (nomark _)) (pss_one (ps_ret (pe_ix ix_tup (pv 2) (pe_ix ix_tup (pv 0) pe_int (fun _ _ => rfl)) (fun _ _ => rfl)))) pss_nil)
      (pss_cons (ps_if (pt_cmpR op_eq (pv 3) pe_str (nomark _)) (pss_one (ps_ret (pe_call GT hr (by rfl) gT kT bT .nil pass0 (pa_cons (pe_ix ix_tup (pv 2) (pe_ix ix_tup (pv 0) pe_int (fun _ _ => rfl)) (fun _ _ => rfl)) (pa_cons (pe_ix ix_tup (pv 2) (pe_ix ix_tup (pv 0) pe_int (fun _ _ => rfl)) (fun _ _ => rfl)) (pa_cons (pv 1) pa_nil)))))) pss_nil)
      (pss_cons (ps_if (pt_cmpR op_eq (pv 3) pe_str (nomark _)) (pss_one (ps_ret (pe_call GT hr (by rfl) gT kT bT .nil pass0 (pa_cons (pe_op op_sub pe_int (pe_ix ix_tup (pv 2) (pe_ix ix_tup (pv 0) pe_int (fun _ _ => rfl)) (fun _ _ => rfl))) (pa_cons (pe_ix ix_tup (pv 2) (pe_ix ix_tup (pv 0) pe_int (fun _ _ => rfl)) (fun _ _ => rfl)) (pa_cons (pv 1) pa_nil)))))) pss_nil)
      (pss_one (ps_ret pe_int)))))), ?_⟩
    unfold dcarAt dcar at q
    have lL : SqT K H L (told.map V.int) := SqT.of eL
    refine ⟨.ref r, rfl, r, _, 0, .str d.1, rfl, rfl, SqT.of er, dv0 d, ?_⟩
    refine ⟨.str d.1, rfl, rfl, _, rfl, ite2 (fun e => ?_) (fun n1 => ?_)⟩
    · rw [if_pos (strEq e)] at q
      have e2 := strEq e
      obtain ⟨i, hi, ai, ei⟩ := arg1 ok (by rw [e2]; decide +kernel) (by rw [e2]; decide +kernel) (by rw [e2]; decide +kernel)
      exact ⟨.ref L, rfl, .ref r, rfl, r, _, 1, .int i, rfl, rfl, SqT.of er, dvN (k := 0) hi, L, _, i, _, rfl, rfl, lL, ei, 1, _, rfl, rfl, .int c, rfl, _, _, rfl, rfl, q⟩
    rw [if_neg (strNe n1)] at q
    refine ⟨.str d.1, rfl, rfl, _, rfl, ite2 (fun e => ?_) (fun n2 => ?_)⟩
    · rw [if_pos (strEq e)] at q
      have e2 := strEq e
      obtain ⟨i, hi, ai, ei⟩ := arg1 ok (by rw [e2]; decide +kernel) (by rw [e2]; decide +kernel) (by rw [e2]; decide +kernel)
      exact ⟨.ref L, rfl, .ref r, rfl, r, _, 1, .int i, rfl, rfl, SqT.of er, dvN (k := 0) hi, L, _, i, _, rfl, rfl, lL, ei, q⟩
    rw [if_neg (strNe n2)] at q
    refine ⟨.str d.1, rfl, rfl, _, rfl, ite2 (fun e => ?_) (fun n3 => ?_)⟩
    · rw [if_pos (strEq e)] at q
      have e2 := strEq e
      obtain ⟨i, hi, ai, ei⟩ := arg1 ok (by rw [e2]; decide +kernel) (by rw [e2]; decide +kernel) (by rw [e2]; decide +kernel)
      obtain ⟨j, hj, aj, ej⟩ := arg2 ok (by rw [e2]; decide +kernel) (by rw [e2]; decide +kernel) (by rw [e2]; decide +kernel) (by rw [e2]; decide +kernel) (by rw [e2]; decide +kernel) (by rw [e2]; decide +kernel)
      exact ⟨.ref L, rfl, .ref r, rfl, r, _, 1, .int i, rfl, rfl, SqT.of er, dvN (k := 0) hi, L, _, i, _, rfl, rfl, lL, ei, .ref L, rfl, .ref r, rfl, r, _, 2, .int j, rfl, rfl, SqT.of er, dvN (k := 1) hj, L, _, j, _, rfl, rfl, lL, ej, .int c, rfl, _, _, c, rfl, q⟩
    rw [if_neg (strNe n3)] at q
    refine ⟨.str d.1, rfl, rfl, _, rfl, ite2 (fun e => ?_) (fun n4 => ?_)⟩
    · rw [if_pos (strEq e)] at q
      have e2 := strEq e
      obtain ⟨i, hi, ai, ei⟩ := arg1 ok (by rw [e2]; decide +kernel) (by rw [e2]; decide +kernel) (by rw [e2]; decide +kernel)
      obtain ⟨j, hj, aj, ej⟩ := arg2 ok (by rw [e2]; decide +kernel) (by rw [e2]; decide +kernel) (by rw [e2]; decide +kernel) (by rw [e2]; decide +kernel) (by rw [e2]; decide +kernel) (by rw [e2]; decide +kernel)
      exact ⟨.ref L, rfl, .ref r, rfl, r, _, 1, .int i, rfl, rfl, SqT.of er, dvN (k := 0) hi, L, _, i, _, rfl, rfl, lL, ei, 1, _, rfl, rfl, .ref L, rfl, .ref r, rfl, r, _, 2, .int j, rfl, rfl, SqT.of er, dvN (k := 1) hj, L, _, j, _, rfl, rfl, lL, ej, .int c, rfl, _, _, c, rfl, q⟩
    rw [if_neg (strNe n4)] at q
    exact q
theorem okd_more {m : Int} {i n : Nat} {d : Deed} (h : DeedOk (m + i) d) (hn : m + i ≤ n) : DeedOk n d := ⟨h.word, fun z hz => ⟨(h.ahead z hz).1, by have := (h.ahead z hz).2; omega⟩⟩
/-! ### bits tell values -/
def bitA (t : Nat) (x : Int) : Int := x / 2 ^ t % 2
theorem bitA_bit (t : Nat) (x : Int) : Bit (bitA t x) := by
  have h0 := Int.emod_nonneg (x / 2 ^ t) (show (2 : Int) ≠ 0 by decide)
  have h1 := Int.emod_lt_of_pos (x / 2 ^ t) (show (0 : Int) < 2 by decide)
  unfold bitA Bit
  omega
/-- the bit at p -/
theorem bit_at {V p u k r : Int} (hp : 0 < p) (h : V = p * (2 * u + k) + r) (r0 : 0 ≤ r) (r1 : r < p) : V / p % 2 = k % 2 := by
  have e : V / p = 2 * u + k := by
    rw [h, Int.add_comm, Int.add_mul_ediv_left _ _ (by omega), Int.ediv_eq_zero_of_lt r0 r1, Int.zero_add]
  rw [e]
  omega
theorem bit_val {k : Int} (h : Bit k) : k % 2 = k := by rcases h with rfl | rfl <;> decide
theorem low_next (A : Int) {p : Int} (hp : 0 < p) : A % (2 * p) = p * (A / p % 2) + A % p := by
  have e := Int.mul_ediv_add_emod A p
  have e2 := Int.mul_ediv_add_emod (A / p) 2
  have r0 := Int.emod_nonneg A (show p ≠ 0 by omega)
  have r1 := Int.emod_lt_of_pos A hp
  have hb := bitA_bit 0 (A / p)
  have b : A / p % 2 = 0 ∨ A / p % 2 = 1 := by omega
  have e3 : A = 2 * p * (A / p / 2) + (p * (A / p % 2) + A % p) := by
    have z : p * (A / p) = p * (2 * (A / p / 2) + A / p % 2) := by rw [e2]
    rw [Int.mul_add, ← Int.mul_assoc, Int.mul_comm p 2] at z
    omega
  have s0 : 0 ≤ p * (A / p % 2) + A % p := by rcases b with b | b <;> rw [b] <;> omega
  have s1 : p * (A / p % 2) + A % p < 2 * p := by rcases b with b | b <;> rw [b] <;> omega
  generalize p * (A / p % 2) + A % p = s at e3 s0 s1
  rw [e3, Int.mul_add_emod_self_left, Int.emod_eq_of_lt s0 s1]
/-- what is carried into the bit at p -/
def CI (x : Str) (A B p c : Int) : Prop :=
  if x = "add" then ∃ r, A % p + B % p = p * c + r ∧ 0 ≤ r ∧ r < p
  else if x = "sub" then ∃ r, A % p - B % p = r - p * c ∧ 0 ≤ r ∧ r < p
  else if x = "neg" then ∃ r, -(A % p) = r - p * (1 - c) ∧ 0 ≤ r ∧ r < p
  else if x = "twice" then ∃ r, A % p + A % p = p * c + r ∧ 0 ≤ r ∧ r < p
  else if x = "one" then c = if p = 1 then 1 else 0
  else c = 0
theorem ci_first (d : Deed) (A B : Int) : CI d.1 A B 1 (fcD d) := by
  unfold CI fcD
  rw [Int.emod_one, Int.emod_one]
  by_cases h1 : d.1 = "add"
  · rw [if_pos h1, h1]
    exact ⟨0, by decide, by decide, by decide⟩
  rw [if_neg h1]
  by_cases h2 : d.1 = "sub"
  · rw [if_pos h2, h2]
    exact ⟨0, by decide, by decide, by decide⟩
  rw [if_neg h2]
  by_cases h3 : d.1 = "neg"
  · rw [if_pos h3, h3]
    exact ⟨0, by decide, by decide, by decide⟩
  rw [if_neg h3]
  by_cases h4 : d.1 = "twice"
  · rw [if_pos h4, h4]
    exact ⟨0, by decide, by decide, by decide⟩
  rw [if_neg h4]
  by_cases h5 : d.1 = "one"
  · rw [if_pos h5, h5]
    decide
  rw [if_neg h5, if_neg (by simp [h3, h5])]
theorem ci_next {x : Str} {A B p c : Int} (hp : 0 < p) (hc : Bit c) (h : CI x A B p c) : CI x A B (2 * p) (dcar x (A / p % 2) (B / p % 2) c) := by
  have ba : Bit (A / p % 2) := by unfold Bit; omega
  have bb : Bit (B / p % 2) := by unfold Bit; omega
  have la := low_next A hp
  have lb := low_next B hp
  have a0 := Int.emod_nonneg A (show p ≠ 0 by omega)
  have a1 := Int.emod_lt_of_pos A hp
  generalize A / p % 2 = α at la ba
  generalize B / p % 2 = β at lb bb
  unfold CI at h ⊢
  rw [la, lb]
  generalize A % p = a at h a0 a1
  generalize B % p = b at h
  by_cases h1 : x = "add"
  · subst h1
    rw [if_pos rfl] at h ⊢
    obtain ⟨r, e, r0, r1⟩ := h
    rcases ba with rfl | rfl <;> rcases bb with rfl | rfl <;> rcases hc with rfl | rfl
    · exact ⟨r, by show _ = 2 * p * 0 + r; omega, r0, by omega⟩
    · exact ⟨p + r, by show _ = 2 * p * 0 + (p + r); omega, by omega, by omega⟩
    · exact ⟨p + r, by show _ = 2 * p * 0 + (p + r); omega, by omega, by omega⟩
    · exact ⟨r, by show _ = 2 * p * 1 + r; omega, r0, by omega⟩
    · exact ⟨p + r, by show _ = 2 * p * 0 + (p + r); omega, by omega, by omega⟩
    · exact ⟨r, by show _ = 2 * p * 1 + r; omega, r0, by omega⟩
    · exact ⟨r, by show _ = 2 * p * 1 + r; omega, r0, by omega⟩
    · exact ⟨p + r, by show _ = 2 * p * 1 + (p + r); omega, by omega, by omega⟩
  rw [if_neg h1] at h ⊢
  by_cases h2 : x = "sub"
  · subst h2
    rw [if_pos rfl] at h ⊢
    obtain ⟨r, e, r0, r1⟩ := h
    rcases ba with rfl | rfl <;> rcases bb with rfl | rfl <;> rcases hc with rfl | rfl
    · exact ⟨r, by show _ = r - 2 * p * 0; omega, r0, by omega⟩
    · exact ⟨p + r, by show _ = (p + r) - 2 * p * 1; omega, by omega, by omega⟩
    · exact ⟨p + r, by show _ = (p + r) - 2 * p * 1; omega, by omega, by omega⟩
    · exact ⟨r, by show _ = r - 2 * p * 1; omega, r0, by omega⟩
    · exact ⟨p + r, by show _ = (p + r) - 2 * p * 0; omega, by omega, by omega⟩
    · exact ⟨r, by show _ = r - 2 * p * 0; omega, r0, by omega⟩
    · exact ⟨r, by show _ = r - 2 * p * 0; omega, r0, by omega⟩
    · exact ⟨p + r, by show _ = (p + r) - 2 * p * 1; omega, by omega, by omega⟩
  rw [if_neg h2] at h ⊢
  by_cases h3 : x = "neg"
  · subst h3
    rw [if_pos rfl] at h ⊢
    obtain ⟨r, e, r0, r1⟩ := h
    rcases ba with rfl | rfl <;> rcases hc with rfl | rfl
    · exact ⟨p + r, by show _ = (p + r) - 2 * p * (1 - 0); omega, by omega, by omega⟩
    · exact ⟨r, by show _ = r - 2 * p * (1 - 1); omega, r0, by omega⟩
    · exact ⟨r, by show _ = r - 2 * p * (1 - 0); omega, r0, by omega⟩
    · exact ⟨p + r, by show _ = (p + r) - 2 * p * (1 - 0); omega, by omega, by omega⟩
  rw [if_neg h3] at h ⊢
  by_cases h4 : x = "twice"
  · subst h4
    rw [if_pos rfl] at h ⊢
    obtain ⟨r, e, r0, r1⟩ := h
    rcases ba with rfl | rfl
    · exact ⟨a + a, by show _ = 2 * p * 0 + (a + a); omega, by omega, by omega⟩
    · exact ⟨a + a, by show _ = 2 * p * 1 + (a + a); omega, by omega, by omega⟩
  rw [if_neg h4] at h ⊢
  have hz : dcar x α β c = 0 := by
    unfold dcar
    rw [if_neg h3, if_neg h4, if_neg h1, if_neg h2]
  by_cases h5 : x = "one"
  · rw [if_pos h5, hz, if_neg (by omega)]
  · rw [if_neg h5, hz]
theorem nat_bits {a b t : Nat} : ((a &&& b) / 2 ^ t % 2 = (a / 2 ^ t % 2) &&& (b / 2 ^ t % 2)) ∧ ((a ||| b) / 2 ^ t % 2 = (a / 2 ^ t % 2) ||| (b / 2 ^ t % 2)) ∧ ((a ^^^ b) / 2 ^ t % 2 = (a / 2 ^ t % 2) ^^^ (b / 2 ^ t % 2)) := by
  refine ⟨?_, ?_, ?_⟩
  · rw [← Nat.shiftRight_eq_div_pow, ← Nat.shiftRight_eq_div_pow, ← Nat.shiftRight_eq_div_pow, Nat.shiftRight_and_distrib]
    exact Nat.and_mod_two_pow (n := 1)
  · rw [← Nat.shiftRight_eq_div_pow, ← Nat.shiftRight_eq_div_pow, ← Nat.shiftRight_eq_div_pow, Nat.shiftRight_or_distrib]
    exact Nat.or_mod_two_pow (n := 1)
  · rw [← Nat.shiftRight_eq_div_pow, ← Nat.shiftRight_eq_div_pow, ← Nat.shiftRight_eq_div_pow, Nat.shiftRight_xor_distrib]
    exact Nat.xor_mod_two_pow (n := 1)
theorem cast_bit (a t : Nat) : bitA t (a : Int) = ((a / 2 ^ t % 2 : Nat) : Int) := by
  unfold bitA
  rw [pw_cast]
  omega
theorem bit_land {A B : Int} (t : Nat) (ha : 0 ≤ A) (hb : 0 ≤ B) : bitA t (Builtin.bitAnd A B) = Builtin.bitAnd (bitA t A) (bitA t B) := by
  obtain ⟨a, rfl⟩ := Int.eq_ofNat_of_zero_le ha
  obtain ⟨b, rfl⟩ := Int.eq_ofNat_of_zero_le hb
  rw [cast_bit, cast_bit, bitAnd_pp (Int.natCast_nonneg _) (Int.natCast_nonneg _), bitAnd_pp (Int.natCast_nonneg _) (Int.natCast_nonneg _)]
  simp only [Int.toNat_natCast]
  rw [cast_bit, nat_bits.1]
theorem bit_lor {A B : Int} (t : Nat) (ha : 0 ≤ A) (hb : 0 ≤ B) : bitA t (Builtin.bitOr A B) = Builtin.bitOr (bitA t A) (bitA t B) := by
  obtain ⟨a, rfl⟩ := Int.eq_ofNat_of_zero_le ha
  obtain ⟨b, rfl⟩ := Int.eq_ofNat_of_zero_le hb
  rw [cast_bit, cast_bit, bitOr_nn (Int.natCast_nonneg _) (Int.natCast_nonneg _), bitOr_nn (Int.natCast_nonneg _) (Int.natCast_nonneg _)]
  simp only [Int.toNat_natCast]
  rw [cast_bit, nat_bits.2.1]
theorem bit_lxor {A B : Int} (t : Nat) (ha : 0 ≤ A) (hb : 0 ≤ B) : bitA t (Builtin.bitXor A B) = Builtin.bitXor (bitA t A) (bitA t B) := by
  obtain ⟨a, rfl⟩ := Int.eq_ofNat_of_zero_le ha
  obtain ⟨b, rfl⟩ := Int.eq_ofNat_of_zero_le hb
  rw [cast_bit, cast_bit, Bits.bitXor_pp (Int.natCast_nonneg _) (Int.natCast_nonneg _), Bits.bitXor_pp (Int.natCast_nonneg _) (Int.natCast_nonneg _)]
  simp only [Int.toNat_natCast]
  rw [cast_bit, nat_bits.2.2]
theorem dbit_tells {x : Str} {A B c : Int} {t n : Nat} (hx : x ∈ fwL.map (·.1)) (ht : t < n) (ha : 0 ≤ A) (hb : 0 ≤ B) (hc : Bit c) (h : CI x A B (2 ^ t) c) : dbit x (bitA t A) (bitA t B) c = bitA t (dvalue x A B (2 ^ n)) := by
  have hp := pw_pos t
  have eA := Int.mul_ediv_add_emod A (2 ^ t)
  have eB := Int.mul_ediv_add_emod B (2 ^ t)
  have qa := Int.mul_ediv_add_emod (A / 2 ^ t) 2
  have qb := Int.mul_ediv_add_emod (B / 2 ^ t) 2
  have a0 := Int.emod_nonneg A (show (2 : Int) ^ t ≠ 0 by omega)
  have a1 := Int.emod_lt_of_pos A hp
  have b0 := Int.emod_nonneg B (show (2 : Int) ^ t ≠ 0 by omega)
  have b1 := Int.emod_lt_of_pos B hp
  have ba := bitA_bit t A
  have bb := bitA_bit t B
  obtain ⟨N', hN⟩ : ∃ N' : Int, (2 : Int) ^ n = 2 ^ t * (2 * N') := by
    refine ⟨2 ^ (n - t - 1), ?_⟩
    rw [show n = t + 1 + (n - t - 1) by omega, Int.pow_add, Int.pow_succ, Int.mul_assoc]
    congr 3
    omega
  have land := bit_land t ha hb
  have lor := bit_lor t ha hb
  have lxor := bit_lxor t ha hb
  have tt : bitA t (A + A) = (A + A) / 2 ^ t % 2 := rfl
  rw [hN]
  unfold CI at h
  have p1 : (2 : Int) ^ t = 1 ∨ 2 ≤ (2 : Int) ^ t := by omega
  unfold bitA at ba bb ⊢
  unfold bitA at land lor lxor
  clear tt hN
  generalize (2 : Int) ^ t = p at *
  generalize hα : A / p % 2 = α at *
  generalize hβ : B / p % 2 = β at *
  generalize A % p = a at *
  generalize B % p = b at *
  generalize A / p / 2 = A' at *
  generalize B / p / 2 = B' at *
  have dA : A = p * (2 * A' + α) + a := by rw [qa]; omega
  have dB : B = p * (2 * B' + β) + b := by rw [qb]; omega
  have mA := Int.mul_add p (2 * A') α
  have mB := Int.mul_add p (2 * B') β
  simp only [fwL, List.map_cons, List.map_nil, List.mem_cons, List.not_mem_nil, or_false] at hx
  rcases hx with rfl | rfl | rfl | rfl | rfl | rfl | rfl | rfl | rfl | rfl | rfl
  · show (0 : Int) = 0 / p % 2
    rw [Int.zero_ediv]
    rfl
  · show c = 1 / p % 2
    have hc1 : c = if p = 1 then 1 else 0 := h
    rcases p1 with p1 | p1
    · rw [hc1, if_pos p1, p1]
      decide
    · rw [hc1, if_neg (by omega), Int.ediv_eq_zero_of_lt (by omega) (by omega)]
      rfl
  · show (1 : Int) = (p * (2 * N') - 1) / p % 2
    rw [bit_at (u := N' - 1) (k := 1) (r := p - 1) hp (by rw [Int.mul_add, Int.mul_sub, Int.mul_sub]; omega) (by omega) (by omega)]
    decide
  · show 1 - α = (p * (2 * N') - 1 - A) / p % 2
    have e : p * (2 * (N' - 1 - A') + (1 - α)) = p * (2 * N') - p * (2 * A') - p * α - p := by
      rw [Int.mul_add, Int.mul_sub 2, Int.mul_sub 2, Int.mul_sub p, Int.mul_sub p, Int.mul_sub p]
      omega
    rw [bit_at (u := N' - 1 - A') (k := 1 - α) (r := p - 1 - a) hp (by rw [e]; omega) (by omega) (by omega)]
    rcases ba with rfl | rfl <;> decide
  · show Builtin.bitXor (1 - α) c = (-A) / p % 2
    obtain ⟨r, er, r0, r1⟩ : ∃ r, -a = r - p * (1 - c) ∧ 0 ≤ r ∧ r < p := h
    have e : p * (2 * (-A') + (-α - 1 + c)) = -(p * (2 * A')) - p * α - p * (1 - c) := by
      rw [Int.mul_add, Int.mul_neg, Int.mul_neg, Int.mul_sub, Int.mul_add, Int.mul_sub, Int.mul_neg]
      omega
    rw [bit_at (u := -A') (k := -α - 1 + c) (r := r) hp (by rw [e]; omega) r0 r1]
    rcases ba with rfl | rfl <;> rcases hc with rfl | rfl <;> decide
  · show c = (A + A) / p % 2
    obtain ⟨r, er, r0, r1⟩ : ∃ r, a + a = p * c + r ∧ 0 ≤ r ∧ r < p := h
    have e : p * (2 * (2 * A' + α) + c) = 2 * (p * (2 * A')) + 2 * (p * α) + p * c := by
      rw [Int.mul_add, Int.mul_left_comm, Int.mul_add p]
      omega
    rw [bit_at (u := 2 * A' + α) (k := c) (r := r) hp (by rw [e]; omega) r0 r1, bit_val hc]
  · show Builtin.bitAnd α β = Builtin.bitAnd A B / p % 2
    rw [land]
  · show Builtin.bitOr α β = Builtin.bitOr A B / p % 2
    rw [lor]
  · show Builtin.bitXor α β = Builtin.bitXor A B / p % 2
    rw [lxor]
  · show Builtin.bitXor (Builtin.bitXor α β) c = (A + B) / p % 2
    obtain ⟨r, er, r0, r1⟩ : ∃ r, a + b = p * c + r ∧ 0 ≤ r ∧ r < p := h
    have e : p * (2 * (A' + B') + (α + β + c)) = p * (2 * A') + p * (2 * B') + p * α + p * β + p * c := by
      rw [Int.mul_add 2, Int.mul_add, Int.mul_add p, Int.mul_add p, Int.mul_add p]
      omega
    rw [bit_at (u := A' + B') (k := α + β + c) (r := r) hp (by rw [e]; omega) r0 r1]
    rcases ba with rfl | rfl <;> rcases bb with rfl | rfl <;> rcases hc with rfl | rfl <;> decide
  · show Builtin.bitXor (Builtin.bitXor α β) c = (A - B) / p % 2
    obtain ⟨r, er, r0, r1⟩ : ∃ r, a - b = r - p * c ∧ 0 ≤ r ∧ r < p := h
    have e : p * (2 * (A' - B') + (α - β - c)) = p * (2 * A') - p * (2 * B') + p * α - p * β - p * c := by
      rw [Int.mul_sub 2, Int.mul_add, Int.mul_sub p, Int.mul_sub p, Int.mul_sub p]
      omega
    rw [bit_at (u := A' - B') (k := α - β - c) (r := r) hp (by rw [e]; omega) r0 r1]
    rcases ba with rfl | rfl <;> rcases bb with rfl | rfl <;> rcases hc with rfl | rfl <;> decide
/-! ### how many deeds carry -/
def carN : List Deed → Nat
  | [] => 0
  | d :: ds => carN ds + if d.1 ∈ twC then 1 else 0
/-! ### rows' bits and carries -/
theorem bit_mod {V : Int} {t n : Nat} (h : t < n) : bitA t (V % 2 ^ n) = bitA t V := by
  obtain ⟨N', hN⟩ : ∃ N' : Int, (2 : Int) ^ n = 2 ^ t * (2 * N') := by
    refine ⟨2 ^ (n - t - 1), ?_⟩
    rw [show n = t + 1 + (n - t - 1) by omega, Int.pow_add, Int.pow_succ, Int.mul_assoc]
    congr 3
    omega
  have hp := pw_pos t
  have e := Int.mul_ediv_add_emod V (2 ^ n)
  have e1 := Int.mul_ediv_add_emod (V % 2 ^ n) (2 ^ t)
  have r0 := Int.emod_nonneg (V % 2 ^ n) (show (2 : Int) ^ t ≠ 0 by omega)
  have r1 := Int.emod_lt_of_pos (V % 2 ^ n) hp
  unfold bitA
  have z : V / 2 ^ t % 2 = (V % 2 ^ n / 2 ^ t) % 2 := by
    refine bit_at (u := N' * (V / 2 ^ n)) (k := V % 2 ^ n / 2 ^ t) (r := V % 2 ^ n % 2 ^ t) hp ?_ r0 r1
    have e2 : (2 : Int) ^ t * (2 * (N' * (V / 2 ^ n))) = 2 ^ n * (V / 2 ^ n) := by rw [hN, Int.mul_assoc, Int.mul_assoc]
    rw [Int.mul_add, e2]
    omega
  exact z.symm
theorem vals_pre {N : Int} : ∀ (ds : List Deed) (t : List Int), (vals N ds t).take t.length = t
  | [], t => List.take_length
  | d :: ds, t => by
    have h := vals_pre ds (t ++ [dval N d t]) (N := N)
    show (vals N ds (t ++ [dval N d t])).take t.length = t
    have h2 : ((vals N ds (t ++ [dval N d t])).take (t ++ [dval N d t]).length).take t.length = t := by
      rw [h]
      exact List.take_left
    rw [List.take_take, List.length_append, Nat.min_eq_left (by omega)] at h2
    exact h2
theorem vals_at {N : Int} {ds : List Deed} {xs : List Int} (i : Nat) (hi : i ≤ ds.length) : vals N (ds.take i) xs = (vals N ds xs).take (xs.length + i) := by
  have e : vals N ds xs = vals N (ds.drop i) (vals N (ds.take i) xs) := by rw [← vals_append, List.take_append_drop]
  have l : (vals N (ds.take i) xs).length = xs.length + i := by rw [vals_len, List.length_take, Nat.min_eq_left hi]
  rw [e, ← l, vals_pre]
theorem ix_lt {d : Deed} {n : Nat} (h : DeedOk n d) (hn : 1 ≤ n) (k : Nat) : (d.2.getD k 0).toNat < n := by
  rw [List.getD_eq_getElem?_getD]
  cases e : d.2[k]? with
  | none => exact hn
  | some i =>
    obtain ⟨h0, h1⟩ := h.ahead i (List.mem_of_getElem? e)
    show i.toNat < n
    omega
theorem arg_map {d : Deed} {told : List Int} (f : Int → Int) (h : DeedOk told.length d) (hn : 1 ≤ told.length) (k : Nat) : argAt d (told.map f) k = f (argAt d told k) := by
  have hi := ix_lt h hn k
  unfold argAt
  generalize (d.2.getD k 0).toNat = j at hi
  rw [List.getD_eq_getElem?_getD, List.getD_eq_getElem?_getD, List.getElem?_map, List.getElem?_eq_getElem hi]
  rfl
theorem arg_take {d : Deed} {v : List Int} {n : Nat} (h : DeedOk n d) (hn : 1 ≤ n) (hv : n ≤ v.length) (k : Nat) : argAt d (v.take n) k = argAt d v k := by
  have hi := ix_lt h hn k
  unfold argAt
  generalize (d.2.getD k 0).toNat = j at hi
  rw [List.getD_eq_getElem?_getD, List.getD_eq_getElem?_getD, List.getElem?_take, if_pos hi]
/-- the carries into bit t -/
structure CIs (v : List Int) (t : Nat) (ds : List Deed) (cs : List Int) : Prop where
  len : cs.length = ds.length
  each : ∀ (k : Nat) d c, ds[k]? = some d → cs[k]? = some c → CI d.1 (argAt d v 0) (argAt d v 1) (2 ^ t) c ∧ Bit c
theorem cis_first (v : List Int) (ds : List Deed) : CIs v 0 ds (ds.map fcD) where
  len := List.length_map ..
  each := fun k d c hd hc => by
    rw [List.getElem?_map, hd] at hc
    obtain rfl := Option.some.inj hc
    refine ⟨ci_first d _ _, ?_⟩
    unfold fcD
    split
    · exact bit1
    · exact bit0
theorem cis_bits {m n t : Nat} {ds : List Deed} {xs cs : List Int} (ok : DsOk m ds) (hm : xs.length = m) (m1 : 1 ≤ m) (hx : ∀ x ∈ xs, 0 ≤ x ∧ x < 2 ^ n) (ht : t < n) (h : CIs (vals (2 ^ n) ds xs) t ds cs) : bts ds cs (xs.map (bitA t)) = (vals (2 ^ n) ds xs).map (bitA t) := by
  have vr := vals_range (pw_pos n) ds xs hx
  have vl := vals_len (size := 2 ^ n) ds xs
  have key : ∀ i, i ≤ ds.length → bts (ds.take i) (cs.take i) (xs.map (bitA t)) = ((vals (2 ^ n) ds xs).take (xs.length + i)).map (bitA t) := by
    intro i
    induction i with
    | zero =>
      intro _
      rw [Nat.add_zero, vals_pre]
      cases ds <;> rfl
    | succ i ih =>
      intro hi
      have hd : ds[i]? = some ds[i] := List.getElem?_eq_getElem (by omega)
      have hc : cs[i]? = some (cs[i]'(by rw [h.len]; omega)) := List.getElem?_eq_getElem _
      obtain ⟨h1, h2⟩ := h.each i _ _ hd hc
      generalize ds[i] = d at hd h1
      generalize cs[i]'(by rw [h.len]; omega) = c at hc h1 h2
      have okd : DeedOk ((xs.length + i : Nat) : Int) d := by
        have := ok.each i d hd
        rw [hm]
        have e : ((m + i : Nat) : Int) = (m : Int) + (i : Int) := by omega
        rw [e]
        exact this
      have pl : ((vals (2 ^ n) ds xs).take (xs.length + i)).length = xs.length + i := by
        rw [List.length_take, vl]
        omega
      rw [bts_next hd hc, ih (by omega), ← vals_at (i + 1) hi, vals_next hd, vals_at i (by omega), List.map_append]
      congr 1
      show [dbitAt d c _] = [bitA t (dval (2 ^ n) d _)]
      unfold dbitAt dval
      rw [arg_map _ (by rw [pl]; exact okd) (by omega), arg_map _ (by rw [pl]; exact okd) (by omega), arg_take okd (by omega) (by omega), arg_take okd (by omega) (by omega), bit_mod ht]
      rw [dbit_tells (List.mem_map.mpr ⟨_, okd.word, rfl⟩) ht (arg_nn (fun x hx => (vr x hx).1) d 0) (arg_nn (fun x hx => (vr x hx).1) d 1) h2 h1]
  have e := key ds.length (Nat.le_refl _)
  rw [List.take_length, ← h.len, List.take_length, h.len, ← vl, List.take_length] at e
  exact e
theorem cis_next {m n t : Nat} {ds : List Deed} {xs cs : List Int} (ok : DsOk m ds) (hm : xs.length = m) (m1 : 1 ≤ m) (h : CIs (vals (2 ^ n) ds xs) t ds cs) : CIs (vals (2 ^ n) ds xs) (t + 1) ds (nxt ds cs ((vals (2 ^ n) ds xs).map (bitA t))) where
  len := nxt_len h.len.symm
  each := fun k d c hd hc => by
    unfold nxt at hc
    rw [List.getElem?_zipWith, hd] at hc
    cases e : cs[k]? with
    | none => rw [e] at hc; simp at hc
    | some c0 =>
      rw [e] at hc
      obtain rfl : dcarAt d c0 ((vals (2 ^ n) ds xs).map (bitA t)) = c := by simpa using hc
      obtain ⟨h1, h2⟩ := h.each k d c0 hd e
      have kl := (List.getElem?_eq_some_iff.mp hd).1
      have okd : DeedOk (vals (2 ^ n) ds xs).length d := by
        rw [vals_len]
        refine ⟨(ok.each k d hd).word, fun i hi => ?_⟩
        have := (ok.each k d hd).ahead i hi
        omega
      have l1 : 1 ≤ (vals (2 ^ n) ds xs).length := by
        rw [vals_len]
        omega
      unfold dcarAt
      rw [arg_map _ okd l1, arg_map _ okd l1]
      refine ⟨?_, dcar_bit (bitA_bit _ _) (bitA_bit _ _) h2⟩
      rw [Int.pow_succ, Int.mul_comm]
      exact ci_next (pw_pos t) h2 h1
/-- the carry come to by the words' bits -/
def crry (ds : List Deed) (xs : List Int) : Nat → List Int
  | 0 => ds.map fcD
  | t + 1 => nxt ds (crry ds xs t) (bts ds (crry ds xs t) (xs.map (bitA t)))
theorem crry_ok {m n : Nat} {ds : List Deed} {xs : List Int} (ok : DsOk m ds) (hm : xs.length = m) (m1 : 1 ≤ m) (hx : ∀ x ∈ xs, 0 ≤ x ∧ x < 2 ^ n) : ∀ t, t ≤ n → CIs (vals (2 ^ n) ds xs) t ds (crry ds xs t)
  | 0, _ => cis_first _ ds
  | t + 1, h => by
    have ih := crry_ok ok hm m1 hx t (by omega)
    show CIs _ (t + 1) ds (nxt ds (crry ds xs t) (bts ds (crry ds xs t) (xs.map (bitA t))))
    rw [cis_bits ok hm m1 hx (by omega) ih]
    exact cis_next ok hm m1 ih
theorem crry_bits {m n t : Nat} {ds : List Deed} {xs : List Int} (ok : DsOk m ds) (hm : xs.length = m) (m1 : 1 ≤ m) (hx : ∀ x ∈ xs, 0 ≤ x ∧ x < 2 ^ n) (ht : t < n) : bts ds (crry ds xs t) (xs.map (bitA t)) = (vals (2 ^ n) ds xs).map (bitA t) :=
  cis_bits ok hm m1 hx ht (crry_ok ok hm m1 hx t (by omega))
/-! ### the carries that come -/
inductive Rch (m : Nat) (ds : List Deed) : List Int → Prop
  | first : Rch m ds (ds.map fcD)
  | next {c bs : List Int} : Rch m ds c → bs.length = m → (∀ x ∈ bs, Bit x) → Rch m ds (nxt ds c (bts ds c bs))
theorem crry_rch (ds : List Deed) (xs : List Int) : ∀ t, Rch xs.length ds (crry ds xs t)
  | 0 => .first
  | t + 1 => .next (crry_rch ds xs t) (List.length_map ..) fun x hx => by
    obtain ⟨y, _, rfl⟩ := List.mem_map.mp hx
    exact bitA_bit t y
/-- bits, none where nothing carries -/
def Shp : List Deed → List Int → Prop
  | [], [] => True
  | d :: ds, c :: cs => Bit c ∧ (d.1 ∉ twC → c = 0) ∧ Shp ds cs
  | _, _ => False
theorem Shp.len : ∀ {ds : List Deed} {cs : List Int}, Shp ds cs → cs.length = ds.length
  | [], [], _ => rfl
  | [], _ :: _, h => h.elim
  | _ :: _, [], h => h.elim
  | _ :: _, _ :: _, h => congrArg (· + 1) (Shp.len h.2.2)
theorem Shp.bits : ∀ {ds : List Deed} {cs : List Int}, Shp ds cs → ∀ c ∈ cs, Bit c
  | [], [], _ => (fun _ z => nomatch z)
  | [], _ :: _, h => h.elim
  | _ :: _, [], h => h.elim
  | _ :: _, _ :: _, h => fun c hc => by
    rcases List.mem_cons.mp hc with rfl | hc
    · exact h.1
    · exact Shp.bits h.2.2 c hc
theorem calm_first {d : Deed} (h : d.1 ∉ twC) : fcD d = 0 := by
  unfold fcD
  rw [if_neg]
  intro z
  simp only [List.mem_cons, List.not_mem_nil, or_false] at z
  simp only [twC, List.mem_cons, List.not_mem_nil, or_false, not_or] at h
  rcases z with z | z
  · exact h.2.2.2.1 z
  · exact h.2.2.2.2 z
theorem calm_car {x : Str} (h : x ∉ twC) (a b c : Int) : dcar x a b c = 0 := by
  simp only [twC, List.mem_cons, List.not_mem_nil, or_false, not_or] at h
  obtain ⟨h1, h2, h3, h4, h5⟩ := h
  unfold dcar
  rw [if_neg h4, if_neg h3, if_neg h1, if_neg h2]
theorem shp_first : ∀ ds : List Deed, Shp ds (ds.map fcD)
  | [] => trivial
  | d :: ds => ⟨(by unfold fcD; split; exact bit1; exact bit0), calm_first, shp_first ds⟩
theorem shp_nxt {told : List Int} (hb : ∀ x ∈ told, Bit x) : ∀ {ds : List Deed} {cs : List Int}, Shp ds cs → Shp ds (nxt ds cs told)
  | [], [], _ => trivial
  | [], _ :: _, h => h.elim
  | _ :: _, [], h => h.elim
  | d :: ds, c :: cs, h => ⟨dcar_bit (argAt_bit hb d 0) (argAt_bit hb d 1) h.1, fun z => calm_car z _ _ _, shp_nxt hb h.2.2⟩
theorem rch_shp {m : Nat} {ds : List Deed} : ∀ {c : List Int}, Rch m ds c → Shp ds c := by
  intro c h
  induction h with
  | first => exact shp_first ds
  | next h hl hb ih => exact shp_nxt (bts_bits hb ih.bits) ih
def univ : List Deed → List (List Int)
  | [] => [[]]
  | d :: ds => if d.1 ∈ twC then (univ ds).map (0 :: ·) ++ (univ ds).map (1 :: ·) else (univ ds).map (0 :: ·)
theorem univ_len : ∀ ds : List Deed, (univ ds).length = 2 ^ carN ds
  | [] => rfl
  | d :: ds => by
    have ih := univ_len ds
    unfold univ carN
    by_cases h : d.1 ∈ twC
    · rw [if_pos h, if_pos h, List.length_append, List.length_map, List.length_map, ih, Nat.pow_succ]
      omega
    · rw [if_neg h, if_neg h, List.length_map, ih]
      rfl
theorem shp_univ : ∀ {ds : List Deed} {cs : List Int}, Shp ds cs → cs ∈ univ ds
  | [], [], _ => List.mem_cons_self
  | [], _ :: _, h => h.elim
  | _ :: _, [], h => h.elim
  | d :: ds, c :: cs, h => by
    have ih := shp_univ h.2.2
    unfold univ
    by_cases hd : d.1 ∈ twC
    · rw [if_pos hd]
      rcases h.1 with rfl | rfl
      · exact List.mem_append_left _ (List.mem_map.mpr ⟨cs, ih, rfl⟩)
      · exact List.mem_append_right _ (List.mem_map.mpr ⟨cs, ih, rfl⟩)
    · rw [if_neg hd, h.2.1 hd]
      exact List.mem_map.mpr ⟨cs, ih, rfl⟩
theorem pigeon {α : Type} [DecidableEq α] : ∀ (l D : List α), l.Nodup → (∀ x ∈ l, x ∈ D) → l.length ≤ D.length
  | [], _, _, _ => Nat.zero_le _
  | x :: l, D, nd, h => by
    rw [List.nodup_cons] at nd
    have hx := h x List.mem_cons_self
    have ih := pigeon l (D.erase x) nd.2 fun y hy => (List.mem_erase_of_ne (fun e : y = x => nd.1 (by rw [← e]; exact hy))).mpr (h y (List.mem_cons_of_mem _ hy))
    rw [List.length_erase_of_mem hx] at ih
    have := List.length_pos_of_mem hx
    rw [List.length_cons]
    omega
/-! ### all bits -/
theorem walk_gen {J : It} {n : Nat} {G : Hp → Prop} {Y : Nat → Hp → V → Hp → Prop} (w : Walk J n G Y) {g : TG} {σ0 : L2.St} {B : (Hp → Prop) → L2.St → Hp → Prop} {H0 : Hp} {Qd : Hp → Prop} (Pv : Nat → Hp → Prop) (h0 : Pv 0 H0)
    (hG : ∀ i H, i ≤ n → Pv i H → G H) (hs : ∀ i x H H', i < n → Pv i H → Y i H x H' → g x σ0 H' fun σ2 H2 => B (Pv (i + 1)) σ2 H2) (hd : ∀ H, Pv n H → Qd H) :
    ∃ W : Nat → Nat → Hp → Prop, (∃ m, W 0 m H0) ∧ ∀ i m H, W i m H → (J.stop i H ∧ Qd H) ∨ (J.go i H ∧ ∃ Nx : Hp → Prop, (∀ H', Nx H' → ∃ m', m' < m ∧ W (i + 1) m' H') ∧ ∀ x H', J.yld i H x H' → g x σ0 H' fun σ2 H2 => B Nx σ2 H2) := by
  refine ⟨fun i m H => m = n - i ∧ i ≤ n ∧ Pv i H, ⟨n, by simp, Nat.zero_le _, h0⟩, ?_⟩
  rintro i m H ⟨rfl, hi, q⟩
  by_cases lt : i < n
  · exact .inr ⟨w.goes i H lt (hG i H hi q), Pv (i + 1), fun H' z => ⟨n - (i + 1), by omega, rfl, lt, z⟩, fun x H' y => hs i x H H' lt q (w.yields i H x H' lt (hG i H hi q) y)⟩
  · obtain rfl : i = n := by omega
    exact .inl ⟨w.stops H (hG i H hi q), hd H q⟩
def ext2 (l : List (List Int)) : List (List Int) := l.flatMap fun b => [b ++ [0], b ++ [1]]
def allB : Nat → List (List Int)
  | 0 => [[]]
  | m + 1 => ext2 (allB m)
theorem ext2_len (l : List (List Int)) : (ext2 l).length = 2 * l.length := by
  unfold ext2
  induction l with
  | nil => rfl
  | cons b l ih => rw [List.flatMap_cons, List.length_append, ih, List.length_cons]; simp; omega
theorem allB_len : ∀ m, (allB m).length = 2 ^ m
  | 0 => rfl
  | m + 1 => by
    show (ext2 (allB m)).length = _
    rw [ext2_len, allB_len m, Nat.pow_succ]
    omega
theorem allB_ok : ∀ m, ∀ bs ∈ allB m, bs.length = m ∧ ∀ x ∈ bs, Bit x
  | 0, bs, h => by
    rw [List.mem_singleton.mp h]
    exact ⟨rfl, (fun _ z => nomatch z)⟩
  | m + 1, bs, h => by
    obtain ⟨b, hb, h2⟩ := List.mem_flatMap.mp h
    obtain ⟨h3, h4⟩ := allB_ok m b hb
    simp only [List.mem_cons, List.not_mem_nil, or_false] at h2
    rcases h2 with rfl | rfl
    · refine ⟨by rw [List.length_append, h3]; rfl, fun x hx => ?_⟩
      rcases List.mem_append.mp hx with hx | hx
      · exact h4 x hx
      · rw [List.mem_singleton.mp hx]
        exact bit0
    · refine ⟨by rw [List.length_append, h3]; rfl, fun x hx => ?_⟩
      rcases List.mem_append.mp hx with hx | hx
      · exact h4 x hx
      · rw [List.mem_singleton.mp hx]
        exact bit1
theorem allB_all : ∀ m, ∀ bs : List Int, bs.length = m → (∀ x ∈ bs, Bit x) → bs ∈ allB m
  | 0, bs, h, _ => by
    rw [List.eq_nil_of_length_eq_zero h]
    exact List.mem_cons_self
  | m + 1, bs, h, hb => by
    have hne : bs ≠ [] := fun e => by rw [e] at h; simp at h
    have e := List.dropLast_concat_getLast hne
    have h1 : bs.dropLast ∈ allB m := allB_all m _ (by rw [List.length_dropLast, h]; rfl) fun x hx => hb x ((List.dropLast_sublist bs).subset hx)
    refine List.mem_flatMap.mpr ⟨_, h1, ?_⟩
    rcases hb _ (List.getLast_mem hne) with z | z
    · rw [z] at e
      exact List.mem_cons.mpr (.inl e.symm)
    · rw [z] at e
      exact List.mem_cons.mpr (.inr (List.mem_singleton.mpr e.symm))
/-- tuples of ints -/
abbrev TAt (H : Hp) : List Addr → List (List Int) → Prop := Paired fun f bs => H f = some (.tup (bs.map V.int))
theorem tat_stay {H H' : Hp} (t : TupsStay H H') {fs : List Addr} {l : List (List Int)} (h : TAt H fs l) : TAt H' fs l := awMap (fun f b e => t f _ e) h
def spAll : Sp := fun vs H Q _ => ∃ m : Nat, vs = [.int (m : Int)] ∧ m ≤ 3 ∧ ∀ H' p fs, Same H H' → H p = none → H' p = some (.lst (fs.map V.ref)) → TAt H' fs (allB m) → Q (.ref p) H'
theorem ok_all {f : Addr} {fd : FuncData} {k : Nat} (F : Fun K "all_bits" "all_bits" s_all_bits f fd) (mr : mg "range" = none) : FnOk P w K mg base CX0 (k + 1) f fd ["many"] spAll := by
  refine F.ok sc_all_bits (fun vs H Q E h => ?_) (fun cdv A outer s H vs Q E hr h => ?_)
  · obtain ⟨m, rfl, _⟩ := h
    rfl
  · obtain ⟨m, rfl, m3, q⟩ := h
    refine ⟨_, pss_cons (ps_set (i := 1) sc_all_bits.nd rfl (.inl rfl) (pe_lst (pa_cons (pe_tup pa_nil) pa_nil)))
      (pss_cons (ps_for PassesOwn.never rfl (pi_range1 (by rfl) mr (pa_cons (pv 0) pa_nil)) (pg_name (i := 2) sc_all_bits.nd rfl (.inl rfl))
        (pss_one (ps_setLc2 (i := 1) (own := [("bits", 3), ("bit", 4)]) (vs1 := [4]) (g := gName 3) (g1 := gName 4) (wi1 := iTup K (tTup (tCons (tC (.int 0)) (tCons (tC (.int 1)) tNil)))) (by rfl) sc_all_bits.nd rfl rfl (sw_true rfl rfl rfl (by decide +kernel)) (pi_list (pv 1)) (blkOk_by (own := [("bits", 3), ("bit", 4)]) (N := N_all_bits) (sc := defScope s_all_bits) (by decide +kernel)) (by decide)
          (fun _ _ _ _ _ => pg_name (i := 3) sc_all_bits.nd rfl (Or.inl rfl)) (fun _ _ _ _ _ => pts_nil) (fun _ _ _ _ _ => pi_tup (pe_tup (pa_cons pe_int (pa_cons pe_int pa_nil))))
          (fun _ _ _ _ _ => pg_name (i := 4) sc_all_bits.nd rfl (Or.inl rfl)) (fun _ _ _ _ _ => pts_nil) (fun _ _ _ _ _ => pe_op op_catZ (pv 3) (pe_tup (pa_cons (pv 4) pa_nil))))))
      (pss_one (ps_ret (pv 1)))), ?_⟩
    refine ⟨by show 0 ≤ sizeLine; decide, fun T hT => ⟨by show 1 ≤ sizeLine; decide, fun L hL => ?_⟩⟩
    have s1 := same_new (o := .tup []) hT
    have s2 := same_new (o := .lst [.ref T]) hL
    refine ⟨.int m, rfl, m, rfl, by omega, by omega, for_range (lo := 0) (n := m) (fun i σ H3 => ∃ y2 F1 fs, σ = [some (.int (m : Int)), some (.ref F1), y2, none, none] ∧ H F1 = none ∧ H3 F1 = some (.lst (fs.map V.ref)) ∧ TAt H3 fs (allB i) ∧ Same H H3) ⟨none, L, [T], rfl, s1.free hL, upd_same, .cons (s2 _ _ upd_same) .nil, s1.trans s2⟩ (fun i σ H3 hi hp => ?_) (fun σ H3 hp => ?_)⟩
    · obtain ⟨y2, F1, fs, rfl, nF, eF, hf, sm⟩ := hp
      have fl : fs.length ≤ 8 := by
        rw [awLen hf, allB_len]
        exact Nat.le_trans (Nat.pow_le_pow_right (by decide) (show i ≤ 3 by omega)) (by decide)
      refine ⟨.ref F1, rfl, F1, rfl, ⟨_, .inl (.inl eF)⟩, fun M hM => ?_⟩
      refine walk_gen (walk_list (K := K) (a := F1) (xs := fs.map V.ref)) (fun j H4 => ∃ gs, H4 M = some (.lst (gs.map V.ref)) ∧ TAt H4 gs (ext2 ((allB i).take j)) ∧ Same H3 H4) ⟨[], upd_same, .nil, same_new hM⟩ (fun j H4 _ hp => ?_) (fun j x H4 H5 hj hp hy => ?_) (fun H4 hp => ?_)
      · obtain ⟨_, _, _, s4⟩ := hp
        exact .inl (.inl (s4 _ _ eF))
      · obtain ⟨gs, eM, hg, s4⟩ := hp
        obtain ⟨rfl, hx⟩ := hy
        have hj2 : j < fs.length := by rwa [List.length_map] at hj
        have hx' : x = .ref fs[j] := by
          rw [List.getElem?_map, List.getElem?_eq_getElem hj2] at hx
          exact (Option.some.inj hx).symm
        subst hx'
        obtain ⟨b, hb1, hb2⟩ := awGet hf (List.getElem?_eq_getElem hj2)
        have bl : b.length = i := (allB_ok i b (List.mem_of_getElem? hb1)).1
        refine ⟨rfl, by show 2 ≤ sizeLine; decide, fun U hU => ?_⟩
        have sU := same_new (o := .tup [.int 0, .int 1]) hU
        refine ⟨U, rfl, ⟨_, SqT.of upd_same⟩, ?_⟩
        refine walk_gen (walk_tup (K := K) (a := U) (xs := [.int 0, .int 1])) (fun t H6 => ∃ gs, H6 M = some (.lst (gs.map V.ref)) ∧ TAt H6 gs (ext2 ((allB i).take j) ++ [b ++ [0], b ++ [1]].take t) ∧ TupsStay (upd H5 U (.tup [.int 0, .int 1])) H6 ∧ Same H3 H6) ⟨gs, sU _ _ eM, (by rw [List.take_zero, List.append_nil]; exact tat_stay (Same.tups sU) hg), (fun _ _ e => e), s4.trans sU⟩ (fun t H6 _ hp => ?_) (fun t x H6 H7 ht hp hy => ?_) (fun H6 hp => ?_)
        · obtain ⟨_, _, _, t6, _⟩ := hp
          exact SqT.of (t6 _ _ upd_same)
        · obtain ⟨gs, eM6, hg6, t6, s6⟩ := hp
          obtain ⟨rfl, hx⟩ := hy
          obtain ⟨z, rfl, hz⟩ : ∃ z : Int, x = .int z ∧ [b ++ [0], b ++ [1]].take (t + 1) = [b ++ [0], b ++ [1]].take t ++ [b ++ [z]] := by
            have ht2 : t = 0 ∨ t = 1 := by
              have : t < 2 := ht
              omega
            rcases ht2 with rfl | rfl
            · exact ⟨0, (Option.some.inj hx).symm, rfl⟩
            · exact ⟨1, (Option.some.inj hx).symm, rfl⟩
          have eb := s6 _ _ (hb2)
          refine ⟨rfl, .ref fs[j], rfl, .int z, rfl, by show 1 ≤ sizeLine; decide, fun U2 hU2 => ?_⟩
          have sU2 := same_new (o := .tup [.int z]) hU2
          refine ⟨fs[j], U2, _, _, rfl, rfl, sU2 _ _ eb, upd_same, by rw [List.length_map]; exact Nat.le_of_lt (small1000 (by show b.length + 1 ≤ 1000; omega)), fun p H8 s8 ep => ?_⟩
          have s78 := sU2.trans s8
          have eM8 := s78 _ _ eM6
          have gl := awLen hg6
          have gl2 : gs.length ≤ 18 := by
            rw [gl, List.length_append, ext2_len, List.length_take]
            have e1 : (allB i).length = fs.length := (awLen hf).symm
            have e2 : ([b ++ [0], b ++ [1]].take t).length ≤ 2 := by
              rw [List.length_take]
              exact Nat.min_le_right _ _
            omega
          have tp := tups_put (o := .lst (gs.map V.ref ++ [V.ref p])) eM8
          refine ⟨_, eM8, by rw [List.length_map]; exact small1000 (by omega), gs ++ [p], ?_, ?_, ?_, ?_⟩
          · rw [upd_same, List.map_append]
            rfl
          · rw [hz, ← List.append_assoc]
            refine tat_stay tp (awSnoc (F := fun f (bs : List Int) => H8 f = some (.tup (bs.map V.int))) ?_ (tat_stay (Same.tups s78) hg6))
            rw [ep, List.map_append]
            rfl
          · exact (t6.trans (Same.tups s78)).trans tp
          · intro c u e
            rw [upd_ne (ne_of_none e hM)]
            exact s78 c u (s6 c u e)
        · obtain ⟨gs, eM6, hg6, t6, s6⟩ := hp
          refine ⟨gs, eM6, ?_, s6⟩
          have e1 : ext2 ((allB i).take (j + 1)) = ext2 ((allB i).take j) ++ [b ++ [0], b ++ [1]] := by
            rw [List.take_add_one, hb1]
            unfold ext2
            rw [List.flatMap_append]
            rfl
          rw [e1]
          exact hg6
      · obtain ⟨gs, eM, hg, s4⟩ := hp
        refine ⟨some (.int (0 + i)), M, gs, rfl, sm.free hM, eM, ?_, sm.trans s4⟩
        rw [List.length_map, awLen hf, List.take_length] at hg
        exact hg
    · obtain ⟨y2, F1, fs, rfl, nF, eF, hf, sm⟩ := hp
      exact ⟨.ref F1, rfl, q _ F1 fs sm nF eF hf⟩
/-! ### carry_behind, steps, kept_steps -/
def spCb : Sp := fun vs H Q _ => ∃ (R C T : Addr) (m o : Int) (ds : List Deed) (cs told : List Int), vs = [.ref R, .ref C, .ref T] ∧ RowAt H R m ds o ∧ DsOk m ds ∧ ds.length ≤ 100 ∧ H C = some (.tup (cs.map V.int)) ∧ cs.length = ds.length ∧ H T = some (.tup (told.map V.int)) ∧ (told.length : Int) = m + ds.length ∧
  ∀ H' p, Same H H' → H p = none → H' p = some (.tup ((nxt ds cs told).map V.int)) → Q (.ref p) H'
theorem ok_cb {f fC : Addr} {fd fdC : FuncData} {k : Nat} (F : Fun K "carry_behind" "carry_behind" s_carry_behind f fd)
    (GC : FnOk P w K mg base CX0 (k + 2) fC fdC ["deed", "held", "told"] spDc) (kC : PySem.W.keepIn K (.ref fC) = true) (bC : Binds K fdC ["deed", "held", "told"] []) (gC : mg "deed_carry" = some (.ref fC)) (mt : mg "tuple" = none) (mz : mg "zip" = none) : FnOk P w K mg base CX0 (k + 3) f fd ["row", "carry", "told"] spCb := by
  refine F.ok sc_carry_behind (fun vs H Q E h => ?_) (fun cdv A outer s H vs Q E hr h => ?_)
  · obtain ⟨R, C, T, m, o, ds, cs, told, rfl, _⟩ := h
    rfl
  · obtain ⟨R, C, T, m, o, ds, cs, told, rfl, hrow, hok, hds, eC, hcl, eT, htl, q⟩ := h
    obtain ⟨D, rs, eR, eD, hd⟩ := id hrow
    refine ⟨_, pss_one (ps_ret (pe_callTy call_tuple_of (by rfl) mt (by decide +kernel) (pa_cons
        (pe_lc (own := [("deed", 3), ("held", 4)]) (g := gTup K 2 (gCons (gName 3) (gCons (gName 4) gNil))) (by rfl) sc_carry_behind.nd (RZ.pi_zipA (by rfl) mz (pa_cons (pe_ix ix_tup (pv 0) pe_int (fun _ _ => rfl)) (pa_cons (pv 1) pa_nil))) (blkOk_by (own := [("deed", 3), ("held", 4)]) (N := N_carry_behind) (sc := defScope s_carry_behind) (by decide +kernel))
          (fun _ _ _ _ _ => pg_tup rfl (pgs_cons (pg_name (i := 3) sc_carry_behind.nd rfl (.inl rfl)) (pgs_cons (pg_name (i := 4) sc_carry_behind.nd rfl (.inl rfl)) pgs_nil))) (fun _ _ _ _ _ => pts_nil)
          (fun _ _ _ _ _ => pe_call GC hr (by rfl) gC kC bC .nil pass0 (pa_cons (pv 3) (pa_cons (pv 4) (pa_cons (pv 2) pa_nil))))) pa_nil))), ?_⟩
    have lrs : (rs.map V.ref).length = ds.length := by rw [List.length_map, awLen hd]
    have lcs : (cs.map V.int).length = ds.length := by rw [List.length_map, hcl]
    refine ⟨.ref R, rfl, R, _, 1, .ref D, rfl, rfl, SqT.of eR, rfl, .ref C, rfl, D, C, _, _, rfl, .inr ⟨SqT.of eD, SqT.of eC, fun L hL => ?_⟩⟩
    refine lc_it (walk_zipT (K := K) (a := D) (b := C) (xs := rs.map V.ref) (ys := cs.map V.int) (lrs.trans lcs.symm)) (fun i H4 => H4 L = some (.lst (((nxt ds cs told).take i).map V.int)) ∧ Same H H4) ⟨upd_same, same_new hL⟩ (fun i H4 _ hp => ⟨SqT.of (hp.2 _ _ eD), SqT.of (hp.2 _ _ eC)⟩) (fun i x H4 H5 hi hp hy => ?_) (fun H4 hp => ?_)
    · obtain ⟨eL, sm⟩ := hp
      obtain ⟨U, x1, x2, rfl, hU, rfl, g1, g2⟩ := hy
      have hi2 : i < rs.length := by rwa [List.length_map] at hi
      have hx' : x1 = .ref rs[i] := by
        have g1' : (rs.map V.ref)[i]? = some x1 := g1
        rw [List.getElem?_map, List.getElem?_eq_getElem hi2] at g1'
        exact (Option.some.inj g1').symm
      subst hx'
      obtain ⟨d, hd1, hd2⟩ := awGet hd (List.getElem?_eq_getElem hi2)
      obtain ⟨c, hc, rfl⟩ : ∃ c, cs[i]? = some c ∧ x2 = .int c := by
        have g2' : (cs.map V.int)[i]? = some x2 := g2
        rw [List.getElem?_map] at g2'
        cases e : cs[i]? with
        | none => rw [e] at g2'; cases g2'
        | some c => rw [e] at g2'; exact ⟨c, rfl, (Option.some.inj g2').symm⟩
      have h2 : i < ds.length := by
        rw [← awLen hd]
        exact hi2
      have okd : DeedOk told.length d := okd_more (hok.each i d hd1) (by omega)
      have sU := same_new (o := .tup [.ref rs[i], .int c]) hU
      refine ⟨U, [.ref rs[i], .int c], rfl, .inl (.inl upd_same), rfl, .ref rs[i], [.int c], rfl, .int c, [], rfl, rfl, rfl, ?_⟩
      refine ⟨.ref rs[i], rfl, .int c, rfl, .ref T, rfl, rs[i], T, d, _, c, rfl, sU _ _ (sm _ _ hd2), sU _ _ (sm _ _ eT), okd, _, sU _ _ eL, ?_, ?_, ?_⟩
      · rw [List.length_map, List.length_take, nxt_len hcl.symm]
        exact small1000 (by omega)
      · rw [upd_same, nxt_next hd1 hc, List.map_append]
        rfl
      · intro b u e
        rw [upd_ne (ne_of_none e hL)]
        exact sU b u (sm b u e)
    · obtain ⟨eL, sm⟩ := hp
      rw [lrs, ← nxt_len (t := told) hcl.symm, List.take_length] at eL
      refine ⟨L, _, rfl, .inl ⟨.inl (.inl eL), fun p hp => ?_⟩⟩
      exact q _ p (sm.trans (same_new hp)) (sm.free hp) upd_same
/-- the steps of a carry: for all bits the bit of out and the next carry -/
def stp (m : Nat) (ds : List Deed) (o : Int) (cs : List Int) : List (Int × List Int) := (allB m).map fun bs => ((bts ds cs bs).getD o.toNat 0, nxt ds cs (bts ds cs bs))
theorem stp_len (m : Nat) (ds : List Deed) (o : Int) (cs : List Int) : (stp m ds o cs).length = 2 ^ m := by
  unfold stp
  rw [List.length_map, allB_len]
abbrev StAt (H : Hp) : List Addr → List (Int × List Int) → Prop := Paired fun q e => ∃ c, H q = some (.tup [.int e.1, .ref c]) ∧ H c = some (.tup (e.2.map V.int))
theorem stat_stay {H H' : Hp} (t : TupsStay H H') {ps : List Addr} {l : List (Int × List Int)} (h : StAt H ps l) : StAt H' ps l := awMap (fun q e z => z.elim fun c y => ⟨c, t _ _ y.1, t _ _ y.2⟩) h
def spSt : Sp := fun vs H Q _ => ∃ (R C : Addr) (m : Nat) (o : Int) (ds : List Deed) (cs : List Int), vs = [.ref R, .ref C] ∧ RowAt H R m ds o ∧ RowOk m ds o ∧ H C = some (.tup (cs.map V.int)) ∧ cs.length = ds.length ∧
  ∀ H' p ps, Same H H' → H p = none → H' p = some (.lst (ps.map V.ref)) → StAt H' ps (stp m ds o cs) → Q (.ref p) H'
theorem ok_st {f fA fB fC : Addr} {fd fdA fdB fdC : FuncData} {k : Nat} (F : Fun K "steps" "steps" s_steps f fd)
    (GA : FnOk P w K mg base CX0 (k + 1) fA fdA ["many"] spAll) (kA : PySem.W.keepIn K (.ref fA) = true) (bA : Binds K fdA ["many"] []) (gA : mg "all_bits" = some (.ref fA))
    (GB : FnOk P w K mg base CX0 (k + 2) fB fdB ["row", "carry", "bits"] spBo) (kB : PySem.W.keepIn K (.ref fB) = true) (bB : Binds K fdB ["row", "carry", "bits"] []) (gB : mg "bits_of" = some (.ref fB))
    (GC : FnOk P w K mg base CX0 (k + 3) fC fdC ["row", "carry", "told"] spCb) (kC : PySem.W.keepIn K (.ref fC) = true) (bC : Binds K fdC ["row", "carry", "told"] []) (gC : mg "carry_behind" = some (.ref fC)) : FnOk P w K mg base CX0 (k + 4) f fd ["row", "carry"] spSt := by
  refine F.ok sc_steps (fun vs H Q E h => ?_) (fun cdv A outer s H vs Q E hr h => ?_)
  · obtain ⟨R, C, m, o, ds, cs, rfl, _⟩ := h
    rfl
  · obtain ⟨R, C, m, o, ds, cs, rfl, hrow, hok, eC, hcl, q⟩ := h
    obtain ⟨D, rs, eR, eD, hd⟩ := id hrow
    have r1 := hr.mono (show k + 1 ≤ k + 3 by omega)
    have r2 := hr.mono (show k + 2 ≤ k + 3 by omega)
    refine ⟨_, pss_cons (ps_set (i := 2) sc_steps.nd rfl (.inl rfl) (pe_lst pa_nil))
      (pss_cons (ps_for PassesOwn.never rfl (pi_list (pe_call GA r1 (by rfl) gA kA bA .nil pass0 (pa_cons (pe_ix ix_tup (pv 0) pe_int (fun _ _ => rfl)) pa_nil))) (pg_name (i := 3) sc_steps.nd rfl (.inl rfl))
        (pss_cons (ps_set (i := 4) sc_steps.nd rfl (.inl rfl) (pe_call GB r2 (by rfl) gB kB bB .nil pass0 (pa_cons (pv 0) (pa_cons (pv 1) (pa_cons (pv 3) pa_nil)))))
        (pss_one (ps_expr (pe_bm PySem.F.plainAttrs_list PySem.F.slot_list_append PySem.F.type_list_append mt_append (pv 2) (pa_cons (pe_tup (pa_cons (pe_ix ix_tup (pv 4) (pe_ix ix_tup (pv 0) pe_int (fun _ _ => rfl)) (fun _ _ => rfl)) (pa_cons (pe_call GC hr (by rfl) gC kC bC .nil pass0 (pa_cons (pv 0) (pa_cons (pv 1) (pa_cons (pv 4) pa_nil)))) pa_nil))) pa_nil))))))
      (pss_one (ps_ret (pv 2)))), ?_⟩
    have m1 := hok.m1
    have m3 := hok.m3
    have l8 := hok.len
    refine ⟨Nat.zero_le _, fun L hL => ?_⟩
    have sL := same_new (o := .lst []) hL
    refine ⟨.ref R, rfl, R, _, 0, .int m, rfl, rfl, SqT.of (sL _ _ eR), rfl, m, rfl, by omega, fun H1 B fs s1 nB eB hf => ?_⟩
    have nLB : B ≠ L := fun z => by rw [z, upd_same] at nB; cases nB
    have fl : fs.length = 2 ^ m := by rw [awLen hf, allB_len]
    have f8 : fs.length ≤ 8 := by
      rw [fl]
      exact Nat.le_trans (Nat.pow_le_pow_right (by decide) (show m ≤ 3 by omega)) (by decide)
    have old : ∀ H5 o, Same H H5 → Same H (upd H5 L o) := fun H5 o s5 b u e => by
      rw [upd_ne (ne_of_none e hL)]
      exact s5 b u e
    refine ⟨B, rfl, ⟨_, .inl (.inl eB)⟩, for_list (K := K) (a := B) (xs := fs.map V.ref) (fun i σ H3 => ∃ y3 y4 ps, σ = [some (.ref R), some (.ref C), some (.ref L), y3, y4] ∧ H3 L = some (.lst (ps.map V.ref)) ∧ StAt H3 ps ((stp m ds o cs).take i) ∧ H3 B = some (.lst (fs.map V.ref)) ∧ TAt H3 fs (allB m) ∧ Same H H3)
      ⟨none, none, [], rfl, s1 _ _ upd_same, .nil, eB, hf, sL.trans s1⟩ (fun i σ H3 _ hp => ?_) (fun i x σ H3 hx hp => ?_) (fun σ H3 hp => ?_)⟩
    · obtain ⟨_, _, _, _, _, _, e, _⟩ := hp
      exact .inl (.inl e)
    · obtain ⟨y3, y4, ps, rfl, eL, hs, eB3, hf3, s3⟩ := hp
      have hi : i < fs.length := by
        have := (List.getElem?_eq_some_iff.mp hx).1
        rwa [List.length_map] at this
      have hx' : x = .ref fs[i] := by
        rw [List.getElem?_map, List.getElem?_eq_getElem hi] at hx
        exact (Option.some.inj hx).symm
      subst hx'
      obtain ⟨bs, hb1, hb2⟩ := awGet hf3 (List.getElem?_eq_getElem hi)
      obtain ⟨bl, bb⟩ := allB_ok m bs (List.mem_of_getElem? hb1)
      refine ⟨.ref R, rfl, .ref C, rfl, .ref fs[i], rfl, R, C, fs[i], m, o, ds, cs, bs, rfl, (Same.tups s3).row hrow, hok.deeds, by omega, s3 _ _ eC, hcl, hb2, by rw [bl], by omega, fun H4 T s4 nT eT => ?_⟩
      have tl : (bts ds cs bs).length = m + ds.length := by rw [bts_len hcl.symm, bl]
      have o0 := hok.o0
      have o1 := hok.o1
      refine ⟨.ref L, rfl, .inl ⟨rfl, _, .inl (.inl (s4 _ _ eL))⟩, .ref T, rfl, .ref R, rfl, R, _, 2, .int o, rfl, rfl, SqT.of (s4 _ _ (s3 _ _ eR)), rfl, T, _, o, _, rfl, rfl, SqT.of eT, atI_ints o0 (by omega), ?_⟩
      refine ⟨.ref R, rfl, .ref C, rfl, .ref T, rfl, R, C, T, m, o, ds, cs, _, rfl, (Same.tups (s3.trans s4)).row hrow, hok.deeds, by omega, s4 _ _ (s3 _ _ eC), hcl, eT, by rw [tl]; omega, fun H5 N s5 nN eN => ?_⟩
      refine ⟨by show 2 ≤ sizeLine; decide, fun p hp => ?_⟩
      have sp := same_new (o := .tup [.int ((bts ds cs bs).getD o.toNat 0), .ref N]) hp
      have s46 := (s4.trans s5).trans sp
      have eL6 := s46 _ _ eL
      have e1 : (stp m ds o cs)[i]? = some ((bts ds cs bs).getD o.toNat 0, nxt ds cs (bts ds cs bs)) := by
        unfold stp
        rw [List.getElem?_map, hb1]
        rfl
      have pl := awLen hs
      rw [List.length_take] at pl
      have tp := tups_put (o := .lst (ps.map V.ref ++ [V.ref p])) eL6
      refine ⟨L, _, _, rfl, rfl, eL6, ?_, some (.ref fs[i]), some (.ref T), ps ++ [p], rfl, ?_, ?_, ?_, ?_, ?_⟩
      · rw [List.length_map]
        exact small1000 (by omega)
      · rw [upd_same, List.map_append]
        rfl
      · rw [List.take_add_one, e1]
        exact stat_stay tp (awSnoc (F := fun (q : Addr) (e : Int × List Int) => ∃ c, (upd H5 p (.tup [.int ((bts ds cs bs).getD o.toNat 0), .ref N])) q = some (.tup [.int e.1, .ref c]) ∧ (upd H5 p (.tup [.int ((bts ds cs bs).getD o.toNat 0), .ref N])) c = some (.tup (e.2.map V.int))) ⟨N, upd_same, sp _ _ eN⟩ (stat_stay (Same.tups s46) hs))
      · rw [upd_ne nLB]
        exact s46 _ _ eB3
      · exact tat_stay tp (tat_stay (Same.tups s46) hf3)
      · exact old _ _ (s3.trans s46)
    · obtain ⟨y3, y4, ps, rfl, eL, hs, eB3, hf3, s3⟩ := hp
      rw [List.length_map, fl, ← stp_len m ds o cs, List.take_length] at hs
      exact ⟨.ref L, rfl, q _ L ps s3 hL eL hs⟩
/-! ### dicts by lists of ints -/
abbrev kI (c : List Int) : List Key := c.map Sum.inl
theorem kI_V (c : List Int) : (kI c).map kV = c.map V.int := by
  rw [List.map_map]
  rfl
theorem ints_inj : ∀ {a b : List Int}, a.map V.int = b.map V.int → a = b
  | [], [], _ => rfl
  | [], _ :: _, h => nomatch h
  | _ :: _, [], h => nomatch h
  | x :: a, y :: b, h => by
    rw [List.map_cons, List.map_cons, List.cons.injEq] at h
    rw [V.int.inj h.1, ints_inj h.2]
theorem kI_inj {a b : List Int} (h : kI a = kI b) : a = b := by
  have e := congrArg (List.map kV) h
  rw [kI_V, kI_V] at e
  exact ints_inj e
section tab
variable {α : Type}
def emb (f : α → V) (es : List (List Int × α)) : List (List Key × V) := es.map fun e => (kI e.1, f e.2)
def getA (es : List (List Int × α)) (c : List Int) : Option α := (es.find? fun e => decide (e.1 = c)).map (·.2)
def putA (es : List (List Int × α)) (c : List Int) (v : α) : List (List Int × α) := if c ∈ es.map (·.1) then es.map (fun e => if e.1 = c then (e.1, v) else e) else es ++ [(c, v)]
theorem emb_get (f : α → V) (c : List Int) : ∀ es : List (List Int × α), valV (emb f es) (kI c) = (getA es c).map f
  | [] => rfl
  | e :: es => by
    have ih := emb_get f c es
    unfold emb getA at *
    rw [List.map_cons, List.find?_cons]
    by_cases h : e.1 = c
    · rw [valV_pos (show (kI e.1, f e.2).1 = kI c by rw [h]), decide_eq_true h]
      rfl
    · rw [valV_neg (fun z => h (kI_inj z)), decide_eq_false h]
      exact ih
theorem getA_none {c : List Int} : ∀ {es : List (List Int × α)}, getA es c = none ↔ c ∉ es.map (·.1)
  | [] => by simp [getA]
  | e :: es => by
    have ih := getA_none (c := c) (es := es)
    unfold getA at *
    rw [List.find?_cons, List.map_cons, List.mem_cons, not_or]
    by_cases h : e.1 = c
    · simp [h]
    · rw [decide_eq_false h]
      exact ⟨fun z => ⟨fun y => h y.symm, ih.mp z⟩, fun z => ih.mpr z.2⟩
theorem getA_some {c : List Int} {v : α} {es : List (List Int × α)} (h : getA es c = some v) : (c, v) ∈ es := by
  unfold getA at h
  cases e : es.find? fun e => decide (e.1 = c) with
  | none => rw [e] at h; cases h
  | some p =>
    rw [e] at h
    have h1 := List.mem_of_find?_eq_some e
    have h2 : p.1 = c := of_decide_eq_true (List.find?_some (p := fun e : List Int × α => decide (e.1 = c)) e)
    obtain rfl : p.2 = v := Option.some.inj h
    rw [← h2]
    exact h1
theorem getA_of {c : List Int} {v : α} : ∀ {es : List (List Int × α)}, (es.map (·.1)).Nodup → (c, v) ∈ es → getA es c = some v
  | [], _, h => nomatch h
  | e :: es, nd, h => by
    rw [List.map_cons, List.nodup_cons] at nd
    unfold getA
    rw [List.find?_cons]
    rcases List.mem_cons.mp h with h | h
    · rw [← h]
      simp
    · have hne : ¬ e.1 = c := fun z => nd.1 (z ▸ List.mem_map.mpr ⟨_, h, rfl⟩)
      rw [decide_eq_false hne]
      exact getA_of nd.2 h
theorem emb_put (f : α → V) (es : List (List Int × α)) (c : List Int) (v : α) : putK (emb f es) (kI c) (f v) = emb f (putA es c v) := by
  unfold putK putA
  by_cases h : c ∈ es.map (·.1)
  · rw [if_pos h, if_pos]
    · unfold emb
      rw [List.map_map, List.map_map]
      apply List.map_congr_left
      intro e _
      show (if kI e.1 = kI c then (kI e.1, f v) else (kI e.1, f e.2)) = _
      by_cases he : e.1 = c
      · rw [if_pos (congrArg kI he)]
        simp [he]
      · rw [if_neg (fun z => he (kI_inj z))]
        simp [he]
    · rw [List.any_eq_true]
      obtain ⟨e, h1, h2⟩ := List.mem_map.mp h
      exact ⟨(kI e.1, f e.2), List.mem_map.mpr ⟨e, h1, rfl⟩, by simp [h2]⟩
  · rw [if_neg h, if_neg]
    · unfold emb
      rw [List.map_append]
      rfl
    · intro z
      rw [List.any_eq_true] at z
      obtain ⟨p, h1, h2⟩ := z
      obtain ⟨e, h3, rfl⟩ := List.mem_map.mp h1
      exact h (List.mem_map.mpr ⟨e, h3, kI_inj (of_decide_eq_true h2)⟩)
theorem putA_keys {es : List (List Int × α)} {c : List Int} {v : α} : (putA es c v).map (·.1) = if c ∈ es.map (·.1) then es.map (·.1) else es.map (·.1) ++ [c] := by
  unfold putA
  split
  · rw [List.map_map]
    apply List.map_congr_left
    intro e _
    show (if e.1 = c then (e.1, v) else e).1 = e.1
    split <;> rfl
  · rw [List.map_append]
    rfl
theorem putA_nodup {es : List (List Int × α)} {c : List Int} {v : α} (h : (es.map (·.1)).Nodup) : ((putA es c v).map (·.1)).Nodup := by
  rw [putA_keys]
  split
  · exact h
  · rename_i hn
    rw [List.nodup_append]
    refine ⟨h, by simp, fun a ha b hb => ?_⟩
    rw [List.mem_singleton.mp hb]
    exact fun z => hn (z ▸ ha)
theorem mem_putA {es : List (List Int × α)} {c : List Int} {v : α} {e : List Int × α} : e ∈ putA es c v ↔ e = (c, v) ∨ (e ∈ es ∧ e.1 ≠ c) := by
  unfold putA
  by_cases h : c ∈ es.map (·.1)
  · rw [if_pos h, List.mem_map]
    constructor
    · rintro ⟨a, h1, rfl⟩
      by_cases ha : a.1 = c
      · rw [if_pos ha, ha]
        exact .inl rfl
      · rw [if_neg ha]
        exact .inr ⟨h1, ha⟩
    · rintro (rfl | ⟨h1, h2⟩)
      · obtain ⟨a, h1, h2⟩ := List.mem_map.mp h
        exact ⟨a, h1, by rw [if_pos h2, h2]⟩
      · exact ⟨e, h1, if_neg h2⟩
  · rw [if_neg h, List.mem_append, List.mem_singleton]
    constructor
    · rintro (h1 | h1)
      · exact .inr ⟨h1, fun z => h (z ▸ List.mem_map.mpr ⟨e, h1, rfl⟩)⟩
      · exact .inl h1
    · rintro (h1 | h1)
      · exact .inr h1
      · exact .inl h1.1
end tab
/-- few: all keys are bits, as many as there are deeds -/
theorem few_keys {α : Type} {n : Nat} {es : List (List Int × α)} (nd : (es.map (·.1)).Nodup) (hb : ∀ e ∈ es, e.1.length = n ∧ ∀ x ∈ e.1, Bit x) (hn : n ≤ 8) : es.length ≤ 256 := by
  have h := pigeon (es.map (·.1)) (allB n) nd fun c hc => by
    obtain ⟨e, he, rfl⟩ := List.mem_map.mp hc
    exact allB_all n _ (hb e he).1 (hb e he).2
  rw [List.length_map, allB_len] at h
  exact Nat.le_trans h (Nat.le_trans (Nat.pow_le_pow_right (by decide) hn) (by decide))
/-! ### rows, as numbers -/
structure Rw where
  m : Int
  ds : List Deed
  o : Int
abbrev RwAt (H : Hp) (a : Addr) (r : Rw) : Prop := RowAt H a r.m r.ds r.o
abbrev RwsAt (H : Hp) : List Addr → List Rw → Prop := Paired (RwAt H)
abbrev RwOk (r : Rw) : Prop := RowOk r.m r.ds r.o
theorem stayRws {H H' : Hp} (t : TupsStay H H') {as : List Addr} {rws : List Rw} (h : RwsAt H as rws) : RwsAt H' as rws := awMap (fun _ _ e => t.row e) h
theorem awAt0 {as : List Addr} {a : Addr} {l : List Addr} (h : as = a :: l) : atI (as.map V.ref) 0 = some (.ref a) := by
  subst h
  exact atI_nat (j := 0) rfl
theorem row0 {m o : Int} {D : Addr} : atI [V.int m, .ref D, .int o] 0 = some (.int m) := atI_nat (j := 0) rfl
def rLen (K : PySem.W.Frag) : List V → Hp → VK → Prop := fun xs H Q => ∃ p ys, xs = [.ref p] ∧ (SqL K H p ys ∨ SqT K H p ys) ∧ Q (.int ys.length) H
/-! ### all words -/
def ob (ds : List Deed) (o : Int) (c bs : List Int) : Int := (bts ds c bs).getD o.toNat 0
def nc (ds : List Deed) (c bs : List Int) : List Int := nxt ds c (bts ds c bs)
def wsum (t : Nat) : Nat → (List Int → Nat) → Nat
  | 0, f => f []
  | m + 1, f => ((List.range t).map fun (x : Nat) => wsum t m fun r => f ((x : Int) :: r)).sum
def comb (bs ys : List Int) : List Int := List.zipWith (fun b y => b + 2 * y) bs ys
theorem wsum_congr {t : Nat} : ∀ {m : Nat} {f g : List Int → Nat}, (∀ xs, xs.length = m → (∀ x ∈ xs, 0 ≤ x ∧ x < (t : Int)) → f xs = g xs) → wsum t m f = wsum t m g
  | 0, f, g, h => h [] rfl (fun _ z => nomatch z)
  | m + 1, f, g, h => by
    unfold wsum
    congr 1
    refine List.map_congr_left fun x hx => wsum_congr fun xs hl hb => h _ (by rw [List.length_cons, hl]) fun y hy => ?_
    rcases List.mem_cons.mp hy with rfl | hy
    · have := List.mem_range.mp hx
      omega
    · exact hb y hy
theorem sum_add {α : Type} (f g : α → Nat) : ∀ l : List α, (l.map fun x => f x + g x).sum = (l.map f).sum + (l.map g).sum
  | [] => rfl
  | x :: l => by
    rw [List.map_cons, List.map_cons, List.map_cons, List.sum_cons, List.sum_cons, List.sum_cons, sum_add f g l]
    omega
theorem sum_swap {α β : Type} (f : α → β → Nat) : ∀ (l : List α) (k : List β), (l.map fun x => (k.map fun y => f x y).sum).sum = (k.map fun y => (l.map fun x => f x y).sum).sum
  | [], k => by
    rw [List.map_nil, List.sum_nil]
    induction k with
    | nil => rfl
    | cons y k ih => rw [List.map_cons, List.sum_cons, ← ih]; rfl
  | x :: l, k => by
    rw [List.map_cons, List.sum_cons, sum_swap f l k, ← sum_add]
    rfl
theorem wsum_sum {α : Type} (t : Nat) (L : List α) : ∀ (m : Nat) (f : α → List Int → Nat), wsum t m (fun xs => (L.map fun a => f a xs).sum) = (L.map fun a => wsum t m (f a)).sum
  | 0, _ => rfl
  | m + 1, f => by
    show ((List.range t).map fun (x : Nat) => wsum t m fun r => (L.map fun a => f a ((x : Int) :: r)).sum).sum = _
    have : (fun (x : Nat) => wsum t m fun r => (L.map fun a => f a ((x : Int) :: r)).sum) = fun (x : Nat) => (L.map fun a => wsum t m fun r => f a ((x : Int) :: r)).sum := funext fun x => wsum_sum t L m fun a r => f a ((x : Int) :: r)
    rw [this, sum_swap]
    rfl
theorem range_two (g : Nat → Nat) : ∀ t : Nat, ((List.range (2 * t)).map g).sum = ((List.range t).map fun y => g (2 * y) + g (2 * y + 1)).sum
  | 0 => rfl
  | t + 1 => by
    have e : 2 * (t + 1) = 2 * t + 1 + 1 := by omega
    rw [e, List.range_succ, List.range_succ, List.range_succ, List.map_append, List.map_append, List.map_append, List.sum_append, List.sum_append, List.sum_append, range_two g t]
    simp
    omega
theorem ext2_sum (g : List Int → Nat) : ∀ l : List (List Int), ((ext2 l).map g).sum = (l.map fun b => g (b ++ [0]) + g (b ++ [1])).sum
  | [] => rfl
  | b :: l => by
    show ((([b ++ [0], b ++ [1]] : List (List Int)) ++ ext2 l).map g).sum = _
    rw [List.map_append, List.sum_append, ext2_sum g l, List.map_cons, List.sum_cons]
    simp
theorem allB_front : ∀ (m : Nat) (g : List Int → Nat), ((allB (m + 1)).map g).sum = ((allB m).map fun bs => g (0 :: bs) + g (1 :: bs)).sum
  | 0, g => by
    show ((ext2 [[]]).map g).sum = _
    rw [ext2_sum]
    rfl
  | m + 1, g => by
    have e : allB (m + 1 + 1) = ext2 (allB (m + 1)) := rfl
    rw [e, ext2_sum, allB_front m, show allB (m + 1) = ext2 (allB m) from rfl, ext2_sum]
    congr 1
    refine List.map_congr_left fun bs _ => ?_
    show g (0 :: (bs ++ [0])) + g (0 :: (bs ++ [1])) + (g (1 :: (bs ++ [0])) + g (1 :: (bs ++ [1]))) = g (0 :: (bs ++ [0])) + g (1 :: (bs ++ [0])) + (g (0 :: (bs ++ [1])) + g (1 :: (bs ++ [1])))
    omega
theorem wsum_two (t : Nat) : ∀ (m : Nat) (f : List Int → Nat), wsum (2 * t) m f = ((allB m).map fun bs => wsum t m fun ys => f (comb bs ys)).sum
  | 0, f => by
    show f [] = ([[]].map fun bs => wsum t 0 fun ys => f (comb bs ys)).sum
    simp [wsum, comb]
  | m + 1, f => by
    rw [allB_front]
    show ((List.range (2 * t)).map fun (x : Nat) => wsum (2 * t) m fun r => f ((x : Int) :: r)).sum = _
    rw [range_two]
    have e1 : ∀ x : Nat, wsum (2 * t) m (fun r => f ((x : Int) :: r)) = ((allB m).map fun bs => wsum t m fun ys => f ((x : Int) :: comb bs ys)).sum := fun x => wsum_two t m fun r => f ((x : Int) :: r)
    have e2 : (fun (y : Nat) => wsum (2 * t) m (fun r => f (((2 * y : Nat) : Int) :: r)) + wsum (2 * t) m (fun r => f (((2 * y + 1 : Nat) : Int) :: r))) = fun (y : Nat) => ((allB m).map fun bs => (wsum t m fun ys => f (((2 * y : Nat) : Int) :: comb bs ys)) + wsum t m fun ys => f (((2 * y + 1 : Nat) : Int) :: comb bs ys)).sum := funext fun y => by
      rw [e1, e1, ← sum_add]
    rw [e2, sum_swap]
    congr 1
    refine List.map_congr_left fun bs _ => ?_
    show _ = ((List.range t).map fun (y : Nat) => wsum t m fun r => f (comb (0 :: bs) ((y : Int) :: r))).sum + ((List.range t).map fun (y : Nat) => wsum t m fun r => f (comb (1 :: bs) ((y : Int) :: r))).sum
    rw [← sum_add]
    congr 1
    refine List.map_congr_left fun y _ => ?_
    have a0 : ((2 * y : Nat) : Int) = 0 + 2 * (y : Int) := by omega
    have a1 : ((2 * y + 1 : Nat) : Int) = 1 + 2 * (y : Int) := by omega
    rw [a0, a1]
    rfl
theorem wsum_one : ∀ m : Nat, wsum 1 m (fun _ => 1) = 1
  | 0 => rfl
  | m + 1 => by
    show ((List.range 1).map fun (_ : Nat) => wsum 1 m fun _ => 1).sum = 1
    rw [wsum_one m]
    rfl
theorem wsum_zero (t : Nat) : ∀ m : Nat, wsum t m (fun _ => 0) = 0
  | 0 => rfl
  | m + 1 => by
    show ((List.range t).map fun (_ : Nat) => wsum t m fun _ => 0).sum = 0
    rw [wsum_zero t m, List.map_const', List.sum_replicate_nat, Nat.mul_zero]
theorem comb_mod : ∀ {bs ys : List Int}, bs.length = ys.length → (∀ x ∈ bs, Bit x) → (comb bs ys).map (· % 2) = bs ∧ (comb bs ys).map (· / 2) = ys
  | [], [], _, _ => ⟨rfl, rfl⟩
  | [], _ :: _, h, _ => by simp at h
  | _ :: _, [], h, _ => by simp at h
  | b :: bs, y :: ys, h, hb => by
    obtain ⟨h1, h2⟩ := comb_mod (bs := bs) (ys := ys) (by simpa using h) fun x hx => hb x (List.mem_cons_of_mem _ hx)
    have hbb := hb b List.mem_cons_self
    have e1 : (b + 2 * y) % 2 = b := by rcases hbb with rfl | rfl <;> omega
    have e2 : (b + 2 * y) / 2 = y := by rcases hbb with rfl | rfl <;> omega
    refine ⟨?_, ?_⟩
    · show (b + 2 * y) % 2 :: (comb bs ys).map (· % 2) = _
      rw [h1, e1]
    · show (b + 2 * y) / 2 :: (comb bs ys).map (· / 2) = _
      rw [h2, e2]
theorem bits_eq {v u : Int} : ∀ (w : Nat), (∀ s, s < w → bitA s v = bitA s u) → v % 2 ^ w = u % 2 ^ w
  | 0, _ => by
    rw [Int.pow_zero, Int.emod_one, Int.emod_one]
  | w + 1, h => by
    have ih := bits_eq w fun s hs => h s (by omega)
    have hb := h w (by omega)
    have e1 := low_next v (pw_pos w)
    have e2 := low_next u (pw_pos w)
    rw [Int.mul_comm 2, ← Int.pow_succ] at e1 e2
    unfold bitA at hb
    rw [e1, e2, ih, hb]
/-! ### kept_steps -/
/-- the kept steps of some carries -/
structure Kept (H : Hp) (m : Nat) (ds : List Deed) (o : Int) (es : List (List Int × Addr)) : Prop where
  nd : (es.map (·.1)).Nodup
  bits : ∀ e ∈ es, e.1.length = ds.length ∧ ∀ x ∈ e.1, Bit x
  each : ∀ e ∈ es, ∃ ps, H e.2 = some (.lst (ps.map V.ref)) ∧ StAt H ps (stp m ds o e.1)
def spKs : Sp := fun vs H Q _ => ∃ (D R C : Addr) (m : Nat) (o : Int) (ds : List Deed) (cs : List Int) (es : List (List Int × Addr)), vs = [.ref D, .ref R, .ref C] ∧ H D = some (.dT (emb V.ref es)) ∧ Kept H m ds o es ∧ RowAt H R m ds o ∧ RowOk m ds o ∧ H C = some (.tup (cs.map V.int)) ∧ cs.length = ds.length ∧ (∀ x ∈ cs, Bit x) ∧
  ∀ H' p ps es', But D H H' → H' D = some (.dT (emb V.ref es')) → Kept H' m ds o es' → (∀ e ∈ es, e ∈ es') → (∀ e ∈ es', e ∈ es ∨ H e.2 = none) → (cs, p) ∈ es' → H' p = some (.lst (ps.map V.ref)) → StAt H' ps (stp m ds o cs) → Q (.ref p) H'
theorem ok_ks {f fS : Addr} {fd fdS : FuncData} {k : Nat} (F : Fun K "kept_steps" "kept_steps" s_kept_steps f fd)
    (GS : FnOk P w K mg base CX0 (k + 4) fS fdS ["row", "carry"] spSt) (kS : PySem.W.keepIn K (.ref fS) = true) (bS : Binds K fdS ["row", "carry"] []) (gS : mg "steps" = some (.ref fS)) : FnOk P w K mg base CX0 (k + 5) f fd ["kept", "row", "carry"] spKs := by
  refine F.ok sc_kept_steps (fun vs H Q E h => ?_) (fun cdv A outer s H vs Q E hr h => ?_)
  · obtain ⟨D, R, C, m, o, ds, cs, es, rfl, _⟩ := h
    rfl
  · obtain ⟨D, R, C, m, o, ds, cs, es, rfl, eD, kp, hrow, hok, eC, hcl, hcb, q⟩ := h
    have hu := hu_of hr
    refine ⟨_, pss_mid (ps_if (pt_cmp (pc_dnotin hu (pv 2) (pv 0))) (pss_one (ps_dput hu (pv 0) (pv 2) (pe_call GS hr (by rfl) gS kS bS .nil pass0 (pa_cons (pv 1) (pa_cons (pv 2) pa_nil))) rfl)) pss_nil)
      (pss_one (ps_ret (pe_dget hu (pv 0) (pv 2) (fun _ _ => rfl)))), ?_⟩
    have key : ∀ {H' : Hp}, H' C = some (.tup (cs.map V.int)) → H' C = some (.tup ((kI cs).map kV)) := fun e => by rw [kI_V]; exact e
    have l8 := hok.len
    refine ⟨fun σ2 H2 => ∃ es', σ2 = [some (.ref D), some (.ref R), some (.ref C)] ∧ But D H H2 ∧ H2 C = some (.tup (cs.map V.int)) ∧ H2 D = some (.dT (emb V.ref es')) ∧ Kept H2 m ds o es' ∧ (∀ e ∈ es, e ∈ es') ∧ (∀ e ∈ es', e ∈ es ∨ H e.2 = none) ∧ ∃ p, (cs, p) ∈ es', ?_, ?_⟩
    · refine ⟨.ref C, rfl, .ref D, rfl, D, _, rfl, DGet.t eD (key eC), _, rfl, ?_⟩
      rw [emb_get]
      cases eg : getA es cs with
      | some p =>
        exact ⟨es, rfl, But.refl D H, eC, eD, kp, fun e h => h, fun e h => .inl h, p, getA_some eg⟩
      | none =>
        refine ⟨.ref R, rfl, .ref C, rfl, R, C, m, o, ds, cs, rfl, hrow, hok, eC, hcl, fun H1 p ps s1 np ep hs => ?_⟩
        have eD1 := s1 _ _ eD
        have npD : p ≠ D := fun z => by rw [z, eD] at np; cases np
        refine ⟨.ref D, rfl, .ref C, rfl, D, _, rfl, DPut.t eD1 (key (s1 _ _ eC)) ?_, putA es cs p, rfl, ?_, ?_, ?_, ?_, ?_, ?_, ?_⟩
        · unfold emb
          rw [List.length_map]
          have := few_keys kp.nd kp.bits l8
          exact small1000 (by omega)
        · intro b u nb e
          rw [upd_ne nb]
          exact s1 b u e
        · rw [upd_ne (ne_of eC eD (fun z => nomatch z))]
          exact s1 _ _ eC
        · rw [upd_same, emb_put]
        · have ts : TupsStay H1 (upd H1 D (.dT (putK (emb V.ref es) (kI cs) (.ref p)))) := fun b xs e => by
            rw [upd_ne (ne_of e eD1 (fun z => nomatch z))]
            exact e
          refine ⟨putA_nodup kp.nd, fun e he => ?_, fun e he => ?_⟩
          · rcases mem_putA.mp he with rfl | ⟨h1, _⟩
            · exact ⟨hcl, hcb⟩
            · exact kp.bits e h1
          · rcases mem_putA.mp he with rfl | ⟨h1, _⟩
            · refine ⟨ps, ?_, stat_stay ts hs⟩
              rw [upd_ne npD]
              exact ep
            · obtain ⟨ps2, h2, h3⟩ := kp.each e h1
              refine ⟨ps2, ?_, stat_stay ts (stat_stay (Same.tups s1) h3)⟩
              rw [upd_ne (ne_of (s1 _ _ h2) eD1 (fun z => nomatch z))]
              exact s1 _ _ h2
        · intro e he
          refine mem_putA.mpr (.inr ⟨he, fun z => ?_⟩)
          exact getA_none.mp eg (List.mem_map.mpr ⟨e, he, z⟩)
        · intro e he
          rcases mem_putA.mp he with rfl | ⟨h1, _⟩
          · exact .inr np
          · exact .inl h1
        · exact ⟨p, mem_putA.mpr (.inl rfl)⟩
    · rintro σ2 H2 ⟨es', rfl, b2, eC2, eD2, kp2, hsub, hnew, p, hp⟩
      obtain ⟨ps, e1, e2⟩ := kp2.each _ hp
      refine ⟨.ref D, rfl, .ref C, rfl, D, .ref p, rfl, ?_, q H2 p ps es' b2 eD2 kp2 hsub hnew hp e1 e2⟩
      have g := DGet.t eD2 (key eC2)
      rw [emb_get, getA_of kp2.nd hp] at g
      exact g
/-! ### counted_on, how_many -/
/-- sum(d.values()), the values ints -/
def rSumV : List V → Hp → VK → Prop := fun vs H Q => ∃ (p a : Addr) (kvs : List (List Key × V)) (zs : List Int), vs = [.ref p] ∧ H p = some (valsO p a) ∧ H a = some (.dT kvs) ∧ kvs.map (·.2) = zs.map V.int ∧ Q (.int zs.sum) H
theorem preSum_list {val : Nat → Int} : ∀ (zs : List Int), (∀ i, i < zs.length → val i = zs.getD i 0) → preSum val zs.length = zs.sum := by
  intro zs h
  have key : ∀ n, n ≤ zs.length → preSum val n = (zs.take n).sum := by
    intro n
    induction n with
    | zero => intro _; simp [preSum]
    | succ n ih =>
      intro hn
      have hl : n < zs.length := by omega
      rw [show preSum val (n + 1) = preSum val n + val n from rfl, ih (by omega), h n hl, List.take_add_one, List.getElem?_eq_getElem hl, List.getD_eq_getElem?_getD, List.getElem?_eq_getElem hl]
      show _ + zs[n] = (List.take n zs ++ [zs[n]]).sum
      rw [List.sum_append]
      simp only [List.sum_cons, List.sum_nil, Int.add_zero]
  rw [key _ (Nat.le_refl _), List.take_length]
theorem call_sumV {X : Cx} (hc : X.calm = true) : CallR X (.builtin "sum") rSumV := by
  intro pins s σ H vs us Q I r h
  obtain ⟨p, a, kvs, zs, rfl, hp, ha, hz, q⟩ := h
  obtain ⟨u, rfl, ru⟩ := vals1 r
  obtain rfl : u = Value.ref p := ru
  obtain ⟨hs, es, ep, raw, sz, ent⟩ := dt_raw (I.hok a _ ha)
  have hv : s.heap.IsValuesView p a := (I.hok p _ hp).1
  have zl : zs.length = es.size := by
    have := congrArg List.length hz
    rw [List.length_map, List.length_map] at this
    omega
  have la : a < s.heap.objs.size := raw.elim fun o z => Heap.lt_size z.1
  refine call_sum_walkAnyS (wpAny_pyIter_values_raw hv raw ?_)
  have rel : ∀ i v, (∃ hi : i < es.size, v = es[i].val) → ∃ t, v = .int (zs.getD i 0) t := by
    rintro i v ⟨hi, rfl⟩
    obtain ⟨k, v, _, hkv, _, _, rv⟩ := ent i hi
    have e : (kvs.map (·.2))[i]? = some v := by rw [List.getElem?_map, hkv]; rfl
    rw [hz, List.getElem?_map] at e
    cases e2 : zs[i]? with
    | none => rw [e2] at e; cases e
    | some z =>
      rw [e2] at e
      obtain rfl : V.int z = v := Option.some.inj e
      rw [List.getD_eq_getElem?_getD, e2]
      exact rv
  refine ⟨s.heap.objs.size, [s.heap.objs.size, a], [s.heap.objs.size], _, es.size, _, _, fun i => zs.getD i 0, rfl, (Walks.rawValues (A := X.A.in1) (I.ok.hd hc) _ a (Nat.ne_of_lt la) es ep).toS, ?_, ?_, rel, ?_⟩
  · exact ⟨⟨_, Heap.get?_push_size _ rfl, rfl, rfl⟩, raw.at fun o z => Heap.get?_push_of_some _ z⟩
  · intro b hb
    show b < (s.heap.push _).objs.size
    rw [Heap.size_push]
    simp only [List.mem_cons, List.not_mem_nil, or_false] at hb
    rcases hb with rfl | rfl
    · exact Nat.lt_succ_self _
    · exact Nat.lt_succ_of_lt la
  · intro s' t' hm
    have hk : ∀ b o, s.heap.get? b = some o → s'.heap.get? b = some o := fun b o e =>
      hm.heap b o (fun hI => absurd (Heap.lt_size e) (by rw [List.mem_singleton.mp hI]; exact Nat.lt_irrefl _)) (Heap.get?_push_of_some _ e)
    rw [Moved.eq_with hm]
    refine ⟨.int zs.sum, H, I.kept (t' := s'.toks) hk, ⟨t', ?_⟩, q⟩
    rw [← zl, preSum_list zs fun i _ => rfl]
def lin (F : List Int → Int) (es : List (List Int × Int)) : Int := (es.map fun e => e.2 * F e.1).sum
theorem lin_append (F : List Int → Int) (a b : List (List Int × Int)) : lin F (a ++ b) = lin F a + lin F b := by
  unfold lin
  rw [List.map_append, List.sum_append]
theorem lin_put (F : List Int → Int) {c : List Int} {v : Int} : ∀ {ts : List (List Int × Int)}, (ts.map (·.1)).Nodup → lin F (putA ts c ((getA ts c).getD 0 + v)) = lin F ts + v * F c := by
  intro ts nd
  by_cases hc : c ∈ ts.map (·.1)
  · unfold putA
    rw [if_pos hc]
    have key : ∀ (u g : Int) (ts : List (List Int × Int)), (ts.map (·.1)).Nodup → c ∈ ts.map (·.1) → getA ts c = some g → lin F (ts.map fun e => if e.1 = c then (e.1, u) else e) = lin F ts + (u - g) * F c := by
      intro u g ts
      induction ts with
      | nil => intro _ h; cases h
      | cons e ts ih =>
        intro nd hm hg
        rw [List.map_cons, List.nodup_cons] at nd
        unfold lin
        rw [List.map_cons, List.map_cons, List.map_cons, List.sum_cons, List.sum_cons]
        by_cases he : e.1 = c
        · have e2 : e.2 = g := by
            unfold getA at hg
            rw [List.find?_cons, decide_eq_true he] at hg
            exact Option.some.inj hg
          rw [if_pos he]
          have rest : (ts.map fun e => if e.1 = c then (e.1, u) else e) = ts := by
            conv => rhs; rw [← List.map_id ts]
            refine List.map_congr_left fun x hx => if_neg fun z => nd.1 ?_
            rw [he, ← z]
            exact List.mem_map.mpr ⟨x, hx, rfl⟩
          rw [rest]
          dsimp only
          rw [he, e2, Int.sub_mul]
          omega
        · rw [if_neg he]
          have hm2 : c ∈ ts.map (·.1) := (List.mem_cons.mp hm).resolve_left fun z => he z.symm
          have hg2 : getA ts c = some g := by
            unfold getA at hg ⊢
            rw [List.find?_cons, decide_eq_false he] at hg
            exact hg
          have := ih nd.2 hm2 hg2
          unfold lin at this
          rw [this]
          omega
    cases eg : getA ts c with
    | none => exact absurd hc (getA_none.mp eg)
    | some g =>
      rw [key _ g ts nd hc eg, Option.getD_some]
      congr 2
      omega
  · have eg : getA ts c = none := getA_none.mpr hc
    unfold putA
    rw [if_neg hc, lin_append, eg, Option.getD_none, Int.zero_add]
    unfold lin
    simp
structure SumRep (l ts : List (List Int × Int)) : Prop where
  nd : (ts.map (·.1)).Nodup
  keys : ∀ e ∈ ts, ∃ e' ∈ l, e'.1 = e.1
  lin : ∀ F, lin F ts = lin F l
theorem sumrep_put {l ts : List (List Int × Int)} {a : List Int} {x : Int} (h : SumRep l ts) : SumRep (l ++ [(a, x)]) (putA ts a ((getA ts a).getD 0 + x)) := by
  refine ⟨putA_nodup h.nd, fun e he => ?_, fun F => ?_⟩
  · rcases mem_putA.mp he with rfl | ⟨h1, _⟩
    · exact ⟨_, List.mem_append_right _ List.mem_cons_self, rfl⟩
    · obtain ⟨e', h2, h3⟩ := h.keys e h1
      exact ⟨e', List.mem_append_left _ h2, h3⟩
  · rw [lin_put F h.nd, lin_append, h.lin F]
    unfold KK.lin
    simp
/-- what a carry's steps bring, where the bit is the wanted one -/
def ctr (wb v : Int) (ss : List (Int × List Int)) : List (List Int × Int) := ss.flatMap fun s => if s.1 = wb then [(s.2, v)] else []
def ctrs (m : Nat) (wb : Int) (ds : List Deed) (o : Int) (es : List (List Int × Int)) : List (List Int × Int) := es.flatMap fun e => ctr wb e.2 (stp m ds o e.1)
theorem ctr_bits {m : Nat} {wb v : Int} {ds : List Deed} {o : Int} {c : List Int} {ss : List (Int × List Int)} {x : List Int × Int} (h : x ∈ ctr wb v ss) (hs : ∀ s ∈ ss, s ∈ stp m ds o c) (hl : c.length = ds.length) (hb : ∀ y ∈ c, Bit y) : x.1.length = ds.length ∧ ∀ y ∈ x.1, Bit y := by
  obtain ⟨s, h1, h2⟩ := List.mem_flatMap.mp h
  split at h2
  · rw [List.mem_singleton.mp h2]
    obtain ⟨bs, h3, rfl⟩ := List.mem_map.mp (hs s h1)
    exact ⟨nxt_len hl.symm, nxt_bits (bts_bits (allB_ok m bs h3).2 hb) hb⟩
  · cases h2
theorem Kept.monoM {H H' : Hp} {m : Nat} {ds : List Deed} {o : Int} {es : List (List Int × Addr)} (h : Kept H m ds o es) (tl : ∀ e ∈ es, ∀ xs, H e.2 = some (.lst xs) → H' e.2 = some (.lst xs)) (tt : TupsStay H H') : Kept H' m ds o es :=
  ⟨h.nd, h.bits, fun e he => (h.each e he).elim fun ps z => ⟨ps, tl e he _ z.1, stat_stay tt z.2⟩⟩
def spCo : Sp := fun vs H Q _ => ∃ (R Kd Ls : Addr) (m : Nat) (wb o : Int) (ds : List Deed) (ks : List (List Int × Addr)) (es : List (List Int × Int)), vs = [.ref R, .ref Kd, .ref Ls, .int wb] ∧ RowAt H R m ds o ∧ RowOk m ds o ∧ H Kd = some (.dT (emb V.ref ks)) ∧ Kept H m ds o ks ∧
  H Ls = some (.dT (emb V.int es)) ∧ Ls ≠ Kd ∧ (es.map (·.1)).Nodup ∧ (∀ e ∈ es, e.1.length = ds.length ∧ ∀ x ∈ e.1, Bit x) ∧
  ∀ H' p ts ks', But Kd H H' → H' Kd = some (.dT (emb V.ref ks')) → Kept H' m ds o ks' → H p = none → H' p = some (.dT (emb V.int ts)) → SumRep (ctrs m wb ds o es) ts → Q (.ref p) H'
theorem ok_co {f fS : Addr} {fd fdS : FuncData} {k : Nat} (F : Fun K "counted_on" "counted_on" s_counted_on f fd)
    (GK : FnOk P w K mg base CX0 (k + 5) fS fdS ["kept", "row", "carry"] spKs) (kK : PySem.W.keepIn K (.ref fS) = true) (bK : Binds K fdS ["kept", "row", "carry"] []) (gK : mg "kept_steps" = some (.ref fS)) :
    FnOk P w K mg base CX0 (k + 6) f fd ["row", "kept", "counts", "wanted"] spCo := by
  refine F.ok sc_counted_on (fun vs H Q E h => ?_) (fun cdv A outer s H vs Q E hr h => ?_)
  · obtain ⟨R, Kd, Ls, m, wb, o, ds, ks, es, rfl, _⟩ := h
    rfl
  · obtain ⟨R, Kd, Ls, m, wb, o, ds, ks, es, rfl, hrow, hok, eK, kp, eLs, nLK, nd, hb, q⟩ := h
    have hu := hu_of hr
    refine ⟨_, pss_cons (ps_set (i := 4) sc_counted_on.nd rfl (.inl rfl) pe_dnewT)
      (pss_cons (ps_lock (ps_for PassesOwn.never rfl (pi_itT (pv 2)) (pg_tup rfl (pgs_cons (pg_name (i := 5) sc_counted_on.nd rfl (.inl rfl)) (pgs_cons (pg_name (i := 6) sc_counted_on.nd rfl (.inl rfl)) pgs_nil)))
        (pss_one (ps_for PassesOwn.never rfl (pi_list (pe_call GK hr (by rfl) gK kK bK .nil pass0 (pa_cons (pv 1) (pa_cons (pv 0) (pa_cons (pv 5) pa_nil))))) (pg_tup rfl (pgs_cons (pg_name (i := 7) sc_counted_on.nd rfl (.inl rfl)) (pgs_cons (pg_name (i := 8) sc_counted_on.nd rfl (.inl rfl)) pgs_nil)))
          (pss_one (ps_if (pt_cmpR op_eq (pv 7) (pv 3) (nomark _))
            (pss_one (ps_dput hu (pv 4) (pv 8) (pe_op op_add (pe_dget2 hu (pv 4) (pv 8) pe_int ⟨rfl, rfl, rfl, rfl⟩) (pv 6)) rfl)) pss_nil))))))
      (pss_one (ps_ret (pv 4)))), ?_⟩
    intro T hT
    have l8 := hok.len
    have sT := same_new (o := .dT []) hT
    have nTL : T ≠ Ls := fun z => by rw [z, eLs] at hT; cases hT
    have nTK : T ≠ Kd := fun z => by rw [z, eK] at hT; cases hT
    refine ⟨Ls, .dT (emb V.int es), sT _ _ eLs, True.intro, fun od => ?_⟩
    have eHL : upd (upd H T (.dT [])) Ls (.frz od (.dT (emb V.int es))) Ls = some (.frz od (.dT (emb V.int es))) := upd_same
    have eKL : upd (upd H T (.dT [])) Ls (.frz od (.dT (emb V.int es))) Kd = some (.dT (emb V.ref ks)) := by
      rw [upd_ne nLK.symm, upd_ne nTK.symm]
      exact eK
    have eTL : upd (upd H T (.dT [])) Ls (.frz od (.dT (emb V.int es))) T = some (.dT []) := by
      rw [upd_ne nTL]
      exact upd_same
    have toL : ∀ b u, b ≠ Ls → H b = some u → upd (upd H T (.dT [])) Ls (.frz od (.dT (emb V.int es))) b = some u := fun b u nb e => by
      rw [upd_ne nb]
      exact sT _ _ e
    have tL : TupsStay H (upd (upd H T (.dT [])) Ls (.frz od (.dT (emb V.int es)))) := fun b xs e => toL b _ (ne_of e eLs (fun z => nomatch z)) e
    have kpL : Kept (upd (upd H T (.dT [])) Ls (.frz od (.dT (emb V.int es)))) m ds o ks := kp.monoM (fun e _ xs z => toL _ _ (ne_of z eLs (fun y => nomatch y)) z) tL
    generalize upd (upd H T (.dT [])) Ls (.frz od (.dT (emb V.int es))) = HL at eHL eKL eTL toL tL kpL
    refine ⟨.ref Ls, rfl, Ls, od, _, rfl, eHL, for_it (walk_T (d := Ls) (o := od) (kvs := emb V.int es)) (fun i σ H3 => ∃ y5 y6 y7 y8 ks' ts, σ = [some (.ref R), some (.ref Kd), some (.ref Ls), some (.int wb), some (.ref T), y5, y6, y7, y8] ∧ H3 Kd = some (.dT (emb V.ref ks')) ∧ Kept H3 m ds o ks' ∧ H3 T = some (.dT (emb V.int ts)) ∧ SumRep (ctrs m wb ds o (es.take i)) ts ∧ ∀ b u, b ≠ Kd → b ≠ T → HL b = some u → H3 b = some u)
      ⟨none, none, none, none, ks, [], rfl, eKL, kpL, eTL, ⟨List.nodup_nil, (fun _ z => nomatch z), (fun _ => rfl)⟩, fun _ _ _ _ e => e⟩ (fun i σ H3 _ hp => ?_) (fun i x σ H3 H4 hi hp hy => ?_) (fun σ H3 hp => ?_)⟩
    · obtain ⟨_, _, _, _, _, _, _, _, _, _, _, st⟩ := hp
      exact st _ _ nLK nTL.symm eHL
    · obtain ⟨y5, y6, y7, y8, ks', ts, rfl, eK3, kp3, eT3, mr, st⟩ := hp
      obtain ⟨U, C, k0, v, hkv, hC, rfl, hU, rfl⟩ := hy
      obtain ⟨e, he, hk0⟩ : ∃ e, es[i]? = some e ∧ (k0, v) = (kI e.1, V.int e.2) := by
        unfold emb at hkv
        rw [List.getElem?_map] at hkv
        cases h : es[i]? with
        | none => rw [h] at hkv; cases hkv
        | some e => rw [h] at hkv; exact ⟨e, rfl, (Option.some.inj hkv).symm⟩
      obtain ⟨rfl, rfl⟩ := Prod.mk.inj hk0
      rw [kI_V] at hC
      obtain ⟨hl, hbt⟩ := hb e (List.mem_of_getElem? he)
      have sU := same_new (o := .tup [.ref C, .int e.2]) hU
      have nUK : U ≠ Kd := fun z => by rw [z, eK3] at hU; cases hU
      have nUT : U ≠ T := fun z => by rw [z, eT3] at hU; cases hU
      refine ⟨U, [.ref C, .int e.2], rfl, .inl (.inl upd_same), rfl, .ref C, [.int e.2], rfl, .int e.2, [], rfl, rfl, ?_⟩
      have rowS : ∀ {H5 : Hp}, (∀ b u, b ≠ Kd → b ≠ T → HL b = some u → H5 b = some u) → RowAt H5 R m ds o := fun s5 => by
        refine TupsStay.row (fun b xs z => ?_) hrow
        have z1 := tL b xs z
        exact s5 _ _ (ne_of z1 eKL (fun y => nomatch y)) (ne_of z1 eTL (fun y => nomatch y)) z1
      have st4 : ∀ b u, b ≠ Kd → b ≠ T → HL b = some u → upd H3 U (.tup [.ref C, .int e.2]) b = some u := fun b u n1 n2 z => sU _ _ (st b u n1 n2 z)
      refine ⟨.ref Kd, rfl, .ref R, rfl, .ref C, rfl, Kd, R, C, m, o, ds, e.1, ks', rfl, sU _ _ eK3, kp3.monoM (fun _ _ xs z => sU _ _ z) (Same.tups sU), rowS st4, hok, sU _ _ hC, hl, hbt, fun H5 p ps ks2 b5 eK5 kp5 hsub hnew hin ep hs => ?_⟩
      have eT5 := b5 _ _ nTK (sU _ _ eT3)
      have st5 : ∀ b u, b ≠ Kd → b ≠ T → HL b = some u → H5 b = some u := fun b u n1 n2 z => b5 _ _ n1 (st4 b u n1 n2 z)
      have npT : p ≠ T := ne_of ep eT5 (fun y => nomatch y)
      have npK : p ≠ Kd := ne_of ep eK5 (fun y => nomatch y)
      refine ⟨p, rfl, ⟨_, .inl (.inl ep)⟩, for_list (K := K) (a := p) (xs := ps.map V.ref) (fun j σ H6 => ∃ y7 y8 ts, σ = [some (.ref R), some (.ref Kd), some (.ref Ls), some (.int wb), some (.ref T), some (.ref C), some (.int e.2), y7, y8] ∧ H6 T = some (.dT (emb V.int ts)) ∧ SumRep (ctrs m wb ds o (es.take i) ++ ctr wb e.2 ((stp m ds o e.1).take j)) ts ∧ ∀ b u, b ≠ T → H5 b = some u → H6 b = some u)
        ⟨y7, y8, ts, rfl, eT5, by rw [List.take_zero]; show SumRep (_ ++ []) ts; rw [List.append_nil]; exact mr, fun _ _ _ z => z⟩ (fun j σ H6 _ hp => ?_) (fun j x σ H6 hj hp => ?_) (fun σ H6 hp => ?_)⟩
      · obtain ⟨_, _, _, _, _, _, st6⟩ := hp
        exact .inl (.inl (st6 _ _ npT ep))
      · obtain ⟨y7, y8, ts, rfl, eT6, mr6, st6⟩ := hp
        rw [List.getElem?_map] at hj
        obtain ⟨pj, hpj, rfl⟩ := Option.map_eq_some_iff.mp hj
        obtain ⟨sb, hs1, c, hs2, hs3⟩ := awGet hs hpj
        have e2 : H6 pj = some (.tup [.int sb.1, .ref c]) := st6 _ _ (ne_of hs2 eT5 (fun y => nomatch y)) hs2
        have e3 : H6 c = some (.tup (sb.2.map V.int)) := st6 _ _ (ne_of hs3 eT5 (fun y => nomatch y)) hs3
        refine ⟨pj, [.int sb.1, .ref c], rfl, .inl (.inl e2), rfl, .int sb.1, [.ref c], rfl, .ref c, [], rfl, rfl, ?_⟩
        have rg : ctr wb e.2 ((stp m ds o e.1).take (j + 1)) = ctr wb e.2 ((stp m ds o e.1).take j) ++ if sb.1 = wb then [(sb.2, e.2)] else [] := by
          unfold ctr
          rw [List.take_add_one, hs1, List.flatMap_append]
          simp
        refine ⟨.int sb.1, rfl, .int wb, rfl, rfl, _, rfl, ite2 (fun ev => ?_) (fun ev => ?_)⟩
        · have hw := intEq ev
          have g7 := DGet.t (k := kI sb.2) eT6 (by rw [kI_V]; exact e3)
          rw [emb_get] at g7
          refine ⟨.ref T, rfl, T, rfl, .inr ⟨_, .inl eT6⟩, .ref c, rfl, _, g7, ?_⟩
          have gv : ((getA ts sb.2).map V.int).getD (.int 0) = .int ((getA ts sb.2).getD 0) := by cases getA ts sb.2 <;> rfl
          rw [gv]
          have few : (emb V.int ts).length < sizeLine := by
            unfold emb
            rw [List.length_map]
            have := few_keys (n := ds.length) mr6.nd (fun z hz => ?_) l8
            · exact small1000 (by omega)
            · obtain ⟨z', hz', hze⟩ := mr6.keys z hz
              rw [← hze]
              rcases List.mem_append.mp hz' with h1 | h1
              · obtain ⟨e', he', h2⟩ := List.mem_flatMap.mp h1
                obtain ⟨h4, h5⟩ := hb e' (List.mem_of_mem_take he')
                exact ctr_bits h2 (fun s hs => hs) h4 h5
              · exact ctr_bits h1 (fun s hs => List.mem_of_mem_take hs) hl hbt
          refine ⟨.int e.2, rfl, _, _, rfl, rfl, .ref T, rfl, .ref c, rfl, T, _, rfl, DPut.t (k := kI sb.2) eT6 (by rw [kI_V]; exact e3) few, _, _, putA ts sb.2 ((getA ts sb.2).getD 0 + e.2), rfl, ?_, ?_, ?_⟩
          · rw [upd_same, emb_put]
          · rw [rg, if_pos hw, ← List.append_assoc]
            exact sumrep_put mr6
          · intro b u nb z
            rw [upd_ne nb]
            exact st6 b u nb z
        · have hw := intNe ev
          refine ⟨_, _, ts, rfl, eT6, ?_, st6⟩
          rw [rg, if_neg hw, List.append_nil]
          exact mr6
      · obtain ⟨y7, y8, ts2, rfl, eT6, mr6, st6⟩ := hp
        have pl : (ps.map V.ref).length = (stp m ds o e.1).length := by
          rw [List.length_map, awLen hs]
        rw [pl, List.take_length] at mr6
        refine ⟨_, _, _, _, ks2, ts2, rfl, st6 _ _ nTK.symm eK5, kp5.monoM (fun z hz xs y => st6 _ _ (ne_of y eT5 (fun y => nomatch y)) y) (fun b xs y => st6 _ _ (ne_of y eT5 (fun y => nomatch y)) y), eT6, ?_, fun b u n1 n2 z => st6 _ _ n2 (st5 b u n1 n2 z)⟩
        have e1 : ctrs m wb ds o (es.take (i + 1)) = ctrs m wb ds o (es.take i) ++ ctr wb e.2 (stp m ds o e.1) := by
          unfold ctrs
          rw [List.take_add_one, he, List.flatMap_append]
          simp
        rw [e1]
        exact mr6
    · obtain ⟨y5, y6, y7, y8, ks', ts, rfl, eK3, kp3, eT3, mr, st⟩ := hp
      have len : (emb V.int es).length = es.length := List.length_map ..
      rw [len, List.take_length] at mr
      have eLs3 := st _ _ nLK nTL.symm eHL
      have stay : ∀ b u, b ≠ Ls → H3 b = some u → upd H3 Ls (.dT (emb V.int es)) b = some u := fun b u nb z => by
        rw [upd_ne nb]
        exact z
      refine ⟨eLs3, .ref T, rfl, q _ T ts ks' (fun b u nb z => ?_) (stay _ _ nLK.symm eK3) (kp3.monoM (fun z _ xs y => stay _ _ (ne_of y eLs3 (fun y => nomatch y)) y) (fun b xs y => stay _ _ (ne_of y eLs3 (fun y => nomatch y)) y)) hT (stay _ _ nTL eT3) mr⟩
      by_cases hbL : b = Ls
      · subst hbL
        rw [eLs] at z
        rw [upd_same]
        exact z
      · exact stay b u hbL (st b u nb (fun y => by rw [y, hT] at z; cases z) (toL b u hbL z))
/-! ### the choices of words whose worth is a word -/
theorem bit_one' {x : Int} (h : 0 ≤ x) : Builtin.bitAnd x 1 = x % 2 := by
  obtain ⟨a, rfl⟩ := Int.eq_ofNat_of_zero_le h
  rw [bitAnd_pp (Int.natCast_nonneg _) (by decide)]
  simp only [Int.toNat_natCast]
  show ((a &&& 1 : Nat) : Int) = _
  rw [Nat.and_one_is_mod]
  omega
def mat (m : Nat) (ds : List Deed) (o : Int) : Nat → Int → List Int → Nat
  | 0, _, _ => 1
  | k + 1, W, c => ((allB m).map fun bs => if ob ds o c bs = W % 2 then mat m ds o k (W / 2) (nc ds c bs) else 0).sum
def maW (ds : List Deed) (o : Int) : Nat → Int → List Int → List Int → Bool
  | 0, _, _, _ => true
  | k + 1, W, c, xs => decide (ob ds o c (xs.map (· % 2)) = W % 2) && maW ds o k (W / 2) (nc ds c (xs.map (· % 2))) (xs.map (· / 2))
theorem mat_wsum {m : Nat} {ds : List Deed} {o : Int} : ∀ (k : Nat) (W : Int) (c : List Int), mat m ds o k W c = wsum (2 ^ k) m fun xs => if maW ds o k W c xs = true then 1 else 0
  | 0, W, c => (wsum_one m).symm
  | n + 1, W, c => by
    rw [Nat.pow_succ, Nat.mul_comm, wsum_two]
    show ((allB m).map _).sum = _
    congr 1
    refine List.map_congr_left fun bs hbs => ?_
    obtain ⟨bl, bb⟩ := allB_ok m bs hbs
    have e : ∀ ys : List Int, ys.length = m → (if maW ds o (n + 1) W c (comb bs ys) = true then 1 else 0) = if ob ds o c bs = W % 2 then (if maW ds o n (W / 2) (nc ds c bs) ys = true then 1 else 0) else 0 := fun ys hy => by
      obtain ⟨h1, h2⟩ := comb_mod (bs := bs) (ys := ys) (by rw [bl, hy]) bb
      show (if (decide (ob ds o c ((comb bs ys).map (· % 2)) = W % 2) && maW ds o n (W / 2) (nc ds c ((comb bs ys).map (· % 2))) ((comb bs ys).map (· / 2))) = true then 1 else 0) = _
      rw [h1, h2]
      by_cases hq : ob ds o c bs = W % 2
      · rw [decide_eq_true hq, Bool.true_and, if_pos hq]
      · rw [decide_eq_false hq, Bool.false_and, if_neg hq]
        rfl
    rw [wsum_congr (g := fun ys => if ob ds o c bs = W % 2 then (if maW ds o n (W / 2) (nc ds c bs) ys = true then 1 else 0) else 0) fun ys hy _ => e ys hy]
    by_cases hq : ob ds o c bs = W % 2
    · rw [if_pos hq, mat_wsum n]
      congr 1
      funext ys
      rw [if_pos hq]
    · rw [if_neg hq]
      have : (fun ys : List Int => if ob ds o c bs = W % 2 then (if maW ds o n (W / 2) (nc ds c bs) ys = true then 1 else 0) else 0) = fun _ => 0 := funext fun ys => if_neg hq
      rw [this, wsum_zero]
theorem div_next (x : Int) (t : Nat) : x / 2 ^ t / 2 = x / 2 ^ (t + 1) := by
  rw [Int.ediv_ediv_of_nonneg (Int.le_of_lt (pw_pos t)), ← Int.pow_succ]
theorem maW_bits {m w : Nat} {ds : List Deed} {o W : Int} {xs : List Int} (ok : DsOk m ds) (hm : xs.length = m) (m1 : 1 ≤ m) (hx : ∀ x ∈ xs, 0 ≤ x ∧ x < 2 ^ w) (p0 : 0 ≤ o) (p1 : o < m + ds.length) :
    ∀ (k t : Nat), t + k = w → (maW ds o k (W / 2 ^ t) (crry ds xs t) (xs.map (· / 2 ^ t)) = true ↔ ∀ s, t ≤ s → s < w → bitA s ((vals (2 ^ w) ds xs).getD o.toNat 0) = bitA s W)
  | 0, t, h => ⟨fun _ s h1 h2 => by omega, fun _ => rfl⟩
  | k + 1, t, h => by
    have eb : (xs.map (· / 2 ^ t)).map (· % 2) = xs.map (bitA t) := by
      rw [List.map_map]
      rfl
    have ed : (xs.map (· / 2 ^ t)).map (· / 2) = xs.map (· / 2 ^ (t + 1)) := by
      rw [List.map_map]
      exact List.map_congr_left fun x _ => div_next x t
    have ob_of : ob ds o (crry ds xs t) (xs.map (bitA t)) = bitA t ((vals (2 ^ w) ds xs).getD o.toNat 0) := by
      have vl := vals_len (size := 2 ^ w) ds xs
      have ol : o.toNat < (vals (2 ^ w) ds xs).length := by
        rw [vl, hm]
        omega
      unfold ob
      rw [crry_bits ok hm m1 hx (by omega), List.getD_eq_getElem?_getD, List.getD_eq_getElem?_getD, List.getElem?_map, List.getElem?_eq_getElem ol]
      rfl
    show (decide (ob ds o (crry ds xs t) ((xs.map (· / 2 ^ t)).map (· % 2)) = W / 2 ^ t % 2) && maW ds o k (W / 2 ^ t / 2) (nc ds (crry ds xs t) ((xs.map (· / 2 ^ t)).map (· % 2))) ((xs.map (· / 2 ^ t)).map (· / 2))) = true ↔ _
    rw [eb, ed, ob_of, Bool.and_eq_true, div_next]
    have ih := maW_bits (W := W) ok hm m1 hx p0 p1 k (t + 1) (by omega)
    have e1 : nc ds (crry ds xs t) (xs.map (bitA t)) = crry ds xs (t + 1) := rfl
    rw [e1, ih]
    constructor
    · rintro ⟨h1, h2⟩ s hs1 hs2
      by_cases e : s = t
      · rw [e]
        exact of_decide_eq_true h1
      · exact h2 s (by omega) hs2
    · intro hh
      exact ⟨decide_eq_true (hh t (Nat.le_refl _) (by omega)), fun s hs1 hs2 => hh s (by omega) hs2⟩
theorem worth_range {m w : Nat} {ds : List Deed} {o : Int} {xs : List Int} (hm : xs.length = m) (hx : ∀ x ∈ xs, 0 ≤ x ∧ x < 2 ^ w) (p0 : 0 ≤ o) (p1 : o < m + ds.length) : 0 ≤ (vals (2 ^ w) ds xs).getD o.toNat 0 ∧ (vals (2 ^ w) ds xs).getD o.toNat 0 < 2 ^ w := by
  have vl := vals_len (size := 2 ^ w) ds xs
  have ol : o.toNat < (vals (2 ^ w) ds xs).length := by
    rw [vl, hm]
    omega
  rw [List.getD_eq_getElem?_getD, List.getElem?_eq_getElem ol]
  exact vals_range (pw_pos w) ds xs hx _ (List.getElem_mem ol)
theorem maW_worth {m w : Nat} {ds : List Deed} {o W : Int} {xs : List Int} (ok : DsOk m ds) (hm : xs.length = m) (m1 : 1 ≤ m) (hx : ∀ x ∈ xs, 0 ≤ x ∧ x < 2 ^ w) (p0 : 0 ≤ o) (p1 : o < m + ds.length) (w0 : 0 ≤ W) (w1 : W < 2 ^ w) :
    maW ds o w W (ds.map fcD) xs = true ↔ (vals (2 ^ w) ds xs).getD o.toNat 0 = W := by
  have h := maW_bits (W := W) ok hm m1 hx p0 p1 w 0 (by omega)
  have e : xs.map (· / 2 ^ 0) = xs := by
    conv => rhs; rw [← List.map_id xs]
    exact List.map_congr_left fun x _ => Int.ediv_one x
  rw [e, Int.pow_zero, Int.ediv_one] at h
  obtain ⟨a, b⟩ := worth_range hm hx p0 p1
  refine h.trans ⟨fun hb => ?_, fun hb s _ _ => by rw [hb]⟩
  have := bits_eq w fun s hs => hb s (Nat.zero_le _) hs
  rwa [Int.emod_eq_of_lt a b, Int.emod_eq_of_lt w0 w1] at this
/-- for how many choices of words the worth is W -/
def fits (m w : Nat) (ds : List Deed) (o W : Int) : Nat := wsum (2 ^ w) m fun xs => if (vals (2 ^ w) ds xs).getD o.toNat 0 = W then 1 else 0
theorem xs_cast {t w : Nat} (ht : t = 2 ^ w) {xs : List Int} (h : ∀ x ∈ xs, 0 ≤ x ∧ x < (t : Int)) : ∀ x ∈ xs, 0 ≤ x ∧ x < 2 ^ w := fun x hx => by
  have := h x hx
  rw [ht] at this
  rw [pw_cast]
  exact this
theorem mat_fits {m w : Nat} {ds : List Deed} {o W : Int} (ok : RowOk m ds o) (w0 : 0 ≤ W) (w1 : W < 2 ^ w) : mat m ds o w W (ds.map fcD) = fits m w ds o W := by
  rw [mat_wsum]
  have m1 := ok.m1
  refine wsum_congr fun xs hxl hxr => ?_
  have := maW_worth ok.deeds hxl (by omega) (xs_cast rfl hxr) ok.o0 ok.o1 w0 w1
  by_cases h : (vals (2 ^ w) ds xs).getD o.toNat 0 = W
  · rw [if_pos (this.mpr h), if_pos h]
  · rw [if_neg (fun z => h (this.mp z)), if_neg h]
theorem lin_ctr {m : Nat} {ds : List Deed} {o W : Int} {k : Nat} (v : Int) (c : List Int) : lin (fun c => (mat m ds o k (W / 2) c : Int)) (ctr (W % 2) v (stp m ds o c)) = v * (mat m ds o (k + 1) W c : Int) := by
  show _ = v * ((((allB m).map fun bs => if ob ds o c bs = W % 2 then mat m ds o k (W / 2) (nc ds c bs) else 0).sum : Nat) : Int)
  unfold stp
  generalize allB m = L
  induction L with
  | nil => show (0 : Int) = v * ((0 : Nat) : Int); simp
  | cons bs L ih =>
    rw [List.map_cons, List.map_cons, List.sum_cons]
    have e : ∀ (s : Int × List Int) ss, ctr (W % 2) v (s :: ss) = (if s.1 = W % 2 then [(s.2, v)] else []) ++ ctr (W % 2) v ss := fun s ss => rfl
    rw [e, lin_append, ih]
    show lin _ (if ob ds o c bs = W % 2 then _ else _) + _ = _
    by_cases hq : ob ds o c bs = W % 2
    · rw [if_pos hq, if_pos hq]
      show v * (mat m ds o k (W / 2) (nc ds c bs) : Int) + 0 + _ = _
      rw [Int.natCast_add, Int.mul_add, Int.add_zero]
    · rw [if_neg hq, if_neg hq]
      show (0 : Int) + _ = _
      rw [Int.zero_add, Nat.zero_add]
theorem lin_ctrs {m : Nat} {ds : List Deed} {o W : Int} {k : Nat} : ∀ es : List (List Int × Int), lin (fun c => (mat m ds o k (W / 2) c : Int)) (ctrs m (W % 2) ds o es) = lin (fun c => (mat m ds o (k + 1) W c : Int)) es
  | [] => rfl
  | e :: es => by
    have h : ctrs m (W % 2) ds o (e :: es) = ctr (W % 2) e.2 (stp m ds o e.1) ++ ctrs m (W % 2) ds o es := rfl
    rw [h, lin_append, lin_ctr, lin_ctrs es]
    rfl
def spHm : Sp := fun vs H Q _ => ∃ (R : Addr) (m n : Nat) (W o : Int) (ds : List Deed), vs = [.ref R, .int (n : Int), .int W] ∧ n ≤ 60 ∧ 0 ≤ W ∧ W < 2 ^ n ∧ RowAt H R m ds o ∧ RowOk m ds o ∧ ∀ H', Same H H' → Q (.int ((fits m n ds o W : Nat) : Int)) H'
theorem ok_hm {f fF fU : Addr} {fd fdF fdU : FuncData} {k : Nat} (F : Fun K "how_many" "how_many" s_how_many f fd)
    (GF : FnOk P w K mg base CX0 (k + 1) fF fdF ["row"] spFc) (kF : PySem.W.keepIn K (.ref fF) = true) (bF : Binds K fdF ["row"] []) (gF : mg "first_carry" = some (.ref fF))
    (GU : FnOk P w K mg base CX0 (k + 6) fU fdU ["row", "kept", "counts", "wanted"] spCo) (kU : PySem.W.keepIn K (.ref fU) = true) (bU : Binds K fdU ["row", "kept", "counts", "wanted"] []) (gU : mg "counted_on" = some (.ref fU))
    (mr : mg "range" = none) (mm : mg "sum" = none) : FnOk P w K mg base CX0 (k + 7) f fd ["row", "width", "word"] spHm := by
  refine F.ok sc_how_many (fun vs H Q E h => ?_) (fun cdv A outer s H vs Q E hr h => ?_)
  · obtain ⟨R, m, n, W, o, ds, rfl, _⟩ := h
    rfl
  · obtain ⟨R, m, n, W, o, ds, rfl, hn, w0, w1, hrow, hok, q⟩ := h
    have r1 := hr.mono (show k + 1 ≤ k + 6 by omega)
    have hu := hu_of hr
    refine ⟨_, pss_cons (ps_if (pt_cmpR op_ne (pe_op op_shr (pv 2) (pv 1)) pe_int (nomark _)) (pss_one (ps_ret pe_int)) pss_nil)
      (pss_cons (ps_set (i := 3) sc_how_many.nd rfl (.inl rfl) pe_dnewT)
      (pss_cons (ps_set (i := 4) sc_how_many.nd rfl (.inl rfl) (pe_dispT (Nat.lt_of_succ_lt hu) (pe_call GF r1 (by rfl) gF kF bF .nil pass0 (pa_cons (pv 0) pa_nil)) pe_int))
      (pss_cons (ps_for PassesOwn.never rfl (pi_range1 (by rfl) mr (pa_cons (pv 1) pa_nil)) (pg_name (i := 5) sc_how_many.nd rfl (.inl rfl))
        (pss_one (ps_set (i := 4) sc_how_many.nd rfl (.inl rfl) (pe_call GU hr (by rfl) gU kU bU .nil pass0 (pa_cons (pv 0) (pa_cons (pv 3) (pa_cons (pv 4) (pa_cons (pe_op op_and (pe_op op_shr (pv 2) (pv 5)) pe_int) pa_nil)))))))) 
      (pss_one (ps_ret (pe_callB (call_sumV rfl) (by rfl) mm (by decide +kernel) (pa_cons (pe_bm0 PySem.F.plainAttrs_dict PySem.F.slot_dict_values PySem.F.type_dict_values mt_valsT (pv 4)) pa_nil))))))), ?_⟩
    have l8 := hok.len
    have wz : W / 2 ^ ((n : Int).toNat) = 0 := by
      rw [Int.toNat_natCast]
      exact Int.ediv_eq_zero_of_lt w0 w1
    refine ⟨.int W, rfl, .int n, rfl, W, n, rfl, rfl, by omega, rfl, _, rfl, ?_⟩
    refine iteNS (congrArg V.int wz) ?_
    intro Kd hK
    have sK := same_new (o := .dT []) hK
    intro L0 hL0
    have sL0 := same_new (o := .dT []) hL0
    refine ⟨.ref R, rfl, R, m, o, ds, rfl, (Same.tups (sK.trans sL0)).row hrow, by omega, fun H1 C s1 nC eC => ?_⟩
    refine ⟨C, kI (ds.map fcD), rfl, by rw [kI_V]; exact eC, s1 _ _ upd_same, ?_⟩
    have nLK : L0 ≠ Kd := fun z => by rw [z, upd_same] at hL0; cases hL0
    have nL : H L0 = none := sK.free hL0
    have e0 : [(kI (ds.map fcD), V.int 1)] = emb V.int [(ds.map fcD, 1)] := rfl
    rw [e0]
    refine ⟨.int n, rfl, n, rfl, by omega, by omega, for_range (lo := 0) (n := n) (fun t σ H3 => ∃ y5 Ls ks es, σ = [some (.ref R), some (.int (n : Int)), some (.int W), some (.ref Kd), some (.ref Ls), y5] ∧ H3 Kd = some (.dT (emb V.ref ks)) ∧ Kept H3 m ds o ks ∧ H3 Ls = some (.dT (emb V.int es)) ∧ Ls ≠ Kd ∧ (es.map (·.1)).Nodup ∧ (∀ e ∈ es, e.1.length = ds.length ∧ ∀ x ∈ e.1, Bit x) ∧ (t ≤ n → lin (fun c => (mat m ds o (n - t) (W / 2 ^ t) c : Int)) es = (fits m n ds o W : Nat)) ∧ Same H H3)
      ⟨none, L0, [], [(ds.map fcD, 1)], rfl, ?_, ⟨List.nodup_nil, (fun _ z => nomatch z), (fun _ z => nomatch z)⟩, upd_same, nLK, by simp, fun e he => ?_, fun _ => ?_, ?_⟩ (fun t σ H3 ht hp => ?_) (fun σ H3 hp => ?_)⟩
    · rw [upd_ne nLK.symm]
      exact s1 _ _ (sL0 _ _ upd_same)
    · rw [List.mem_singleton.mp he]
      have sh := rch_shp (crry_rch ds [] 0)
      exact ⟨sh.len, sh.bits⟩
    · rw [Int.pow_zero, Int.ediv_one, Nat.sub_zero, ← mat_fits hok w0 w1]
      unfold lin
      simp
    · intro b u e
      rw [upd_ne (ne_of_none e nL)]
      exact s1 _ _ (sL0 _ _ (sK _ _ e))
    · obtain ⟨y5, Ls, ks, es, rfl, eK3, kp3, eL3, nLK3, nd, hb, g, s3⟩ := hp
      have tz : (0 + (t : Int)).toNat = t := by omega
      have wb : Builtin.bitAnd (W / 2 ^ ((0 + (t : Int)).toNat)) 1 = W / 2 ^ t % 2 := by
        rw [tz, bit_one' (Int.ediv_nonneg w0 (by have := pw_pos t; omega))]
      refine ⟨.ref R, rfl, .ref Kd, rfl, .ref Ls, rfl, .int W, rfl, .int (0 + t), rfl, W, 0 + t, rfl, rfl, by omega, _, 1, rfl, rfl, R, Kd, Ls, m, W / 2 ^ t % 2, o, ds, ks, es, ?_, (Same.tups s3).row hrow, hok, eK3, kp3, eL3, nLK3, nd, hb, fun H4 p ts ks' b4 eK4 kp4 np ep mrp => ?_⟩
      · show [V.ref R, V.ref Kd, V.ref Ls, V.int (Builtin.bitAnd (W / 2 ^ ((0 + (t : Int)).toNat)) 1)] = _
        rw [wb]
      · refine ⟨_, p, ks', ts, rfl, eK4, kp4, ep, (fun z => by rw [z, eK3] at np; cases np), mrp.nd, fun e he => ?_, fun hle => ?_, fun b u e => ?_⟩
        · obtain ⟨z', hz', hze⟩ := mrp.keys e he
          rw [← hze]
          obtain ⟨e', he', h2⟩ := List.mem_flatMap.mp hz'
          obtain ⟨h4, h5⟩ := hb e' he'
          exact ctr_bits h2 (fun s hs => hs) h4 h5
        · have := lin_ctrs (m := m) (ds := ds) (o := o) (W := W / 2 ^ t) (k := n - (t + 1)) es
          rw [mrp.lin, ← div_next, this, ← g (by omega)]
          have e1 : n - (t + 1) + 1 = n - t := by omega
          rw [e1]
        · exact b4 b u (ne_of_none e hK) (s3 b u e)
    · obtain ⟨y5, Ls, ks, es, rfl, eK3, kp3, eL3, nLK3, nd, hb, g, s3⟩ := hp
      have g' := g (Nat.le_refl _)
      rw [Nat.sub_self] at g'
      refine ⟨.ref Ls, rfl, .inr (.inr (.inl ⟨rfl, .inr ⟨_, eL3⟩⟩)), Ls, _, rfl, rfl, eL3, fun p hp => ?_⟩
      have sp := same_new (o := valsO p Ls) hp
      refine ⟨p, Ls, _, es.map (·.2), rfl, upd_same, sp _ _ eL3, ?_, ?_⟩
      · unfold emb
        rw [List.map_map, List.map_map]
        rfl
      · have e : (es.map (·.2)).sum = lin (fun c => (mat m ds o 0 (W / 2 ^ n) c : Int)) es := by
          unfold lin
          congr 1
          refine List.map_congr_left fun e _ => ?_
          show e.2 = e.2 * ((1 : Nat) : Int)
          rw [Int.natCast_one, Int.mul_one]
        rw [e, g']
        exact q _ (s3.trans sp)
/-! ### top -/
def spTop : Sp := fun vs H Q _ => ∃ n : Nat, vs = [.int (n : Int)] ∧ n ≤ 1000 ∧ Q (.int (2 ^ n)) H
theorem ok_top {f : Addr} {fd : FuncData} {k : Nat} (F : Fun K "_law_top" "_law_top" s_law_top f fd) (mr : mg "range" = none) : FnOk P w K mg base CX0 (k + 1) f fd ["width"] spTop := by
  refine F.ok sc_law_top (fun vs H Q E h => ?_) (fun cdv A outer s H vs Q E hr h => ?_)
  · obtain ⟨n, rfl, _⟩ := h
    rfl
  · obtain ⟨n, rfl, hn, q⟩ := h
    refine ⟨_, pss_cons (ps_set (i := 1) sc_law_top.nd rfl (.inl rfl) pe_int)
      (pss_cons (ps_for PassesOwn.never rfl (pi_range1 (by rfl) mr (pa_cons (pv 0) pa_nil)) (pg_name (i := 2) sc_law_top.nd rfl (.inl rfl)) (pss_one (ps_set (i := 1) sc_law_top.nd rfl (.inl rfl) (pe_op op_mul pe_int (pv 1)))))
      (pss_one (ps_ret (pv 1)))), ?_⟩
    refine ⟨.int n, rfl, n, rfl, by omega, by omega, for_range (lo := 0) (n := n) (fun i σ H3 => ∃ y, σ = [some (.int (n : Int)), some (.int (2 ^ i)), y] ∧ H3 = H) ⟨none, rfl, rfl⟩ (fun i σ H3 hi hp => ?_) (fun σ H3 hp => ?_)⟩
    · obtain ⟨y, rfl, rfl⟩ := hp
      refine ⟨.int (2 ^ i), rfl, 2, 2 ^ i, rfl, rfl, .inl ⟨by decide, by decide⟩, some (.int (0 + i)), ?_, rfl⟩
      have e : (2 : Int) * 2 ^ i = 2 ^ (i + 1) := by rw [Int.pow_succ, Int.mul_comm]
      show _ = [some (V.int (n : Int)), some (V.int (2 ^ (i + 1))), some (V.int (0 + i))]
      rw [← e]
      rfl
    · obtain ⟨y, rfl, rfl⟩ := hp
      exact ⟨_, rfl, q⟩
/-! ### words -/
def spWords : Sp := fun vs H Q _ => ∃ (a c : Addr) (m t : Int), vs = [.ref a, .int m, .int t] ∧ 0 ≤ m ∧ m ≤ 3 ∧ 2 ≤ t ∧ t ≤ 2 ^ 80 ∧ WL H a c ∧
  ∀ H' p (xs : List Int), H' p = some (.lst (xs.map V.int)) → (xs.length : Int) = m → (∀ x ∈ xs, 0 ≤ x ∧ x < t) → p ≠ a → p ≠ c → WL H' a c → Kp a c H H' → Q (.ref p) H'
theorem word_pick {t y : Int} (ht : 2 ≤ t) (h0 : 0 ≤ y) (h1 : y < 4) : ∃ x, atI [V.int 0, .int (t - 1), .int 1, .int (t / 2)] y = some (.int x) ∧ 0 ≤ x ∧ x < t := by
  obtain ⟨k, rfl⟩ := Int.eq_ofNat_of_zero_le h0
  have hk : k = 0 ∨ k = 1 ∨ k = 2 ∨ k = 3 := by omega
  rcases hk with rfl | rfl | rfl | rfl
  · exact ⟨0, rfl, by omega, by omega⟩
  · exact ⟨t - 1, rfl, by omega, by omega⟩
  · exact ⟨1, rfl, by omega, by omega⟩
  · exact ⟨t / 2, rfl, by omega, by omega⟩
theorem ok_words {f fD : Addr} {fd fdD : FuncData} {k : Nat} (F : Fun K "_law_words" "_law_words" s_law_words f fd) (GD : FnOk P w K mg base CX0 (k + 1) fD fdD ["well", "many"] spDraw) (kD : PySem.W.keepIn K (.ref fD) = true)
    (bD : Binds K fdD ["well", "many"] []) (gD : mg "_law_draw" = some (.ref fD)) (mr : mg "range" = none) : FnOk P w K mg base CX0 (k + 2) f fd ["well", "many", "top"] spWords := by
  refine F.ok sc_law_words (fun vs H Q E h => ?_) (fun cdv A outer s H vs Q E hr h => ?_)
  · obtain ⟨a, c, m, t, rfl, _⟩ := h
    rfl
  · obtain ⟨a, c, m, t, rfl, hm0, hm, ht, ht2, hw, q⟩ := h
    refine ⟨_, pss_cons (ps_set (i := 3) sc_law_words.nd rfl (.inl rfl) (pe_lst pa_nil))
      (pss_cons (ps_for PassesOwn.never rfl (pi_range1 (by rfl) mr (pa_cons (pv 1) pa_nil)) (pg_name (i := 4) sc_law_words.nd rfl (.inl rfl))
        (pss_cons (ps_set (i := 5) sc_law_words.nd rfl (.inl rfl) (pe_call GD hr (by rfl) gD kD bD .nil pass0 (pa_cons (pv 0) (pa_cons pe_int pa_nil))))
        (pss_one (ps_if (pt_cmpR op_lt (pv 5) pe_int (nomark _))
          (pss_one (ps_expr (pe_bm PySem.F.plainAttrs_list PySem.F.slot_list_append PySem.F.type_list_append mt_append (pv 3) (pa_cons (pe_ix ix_list (pe_lst (pa_cons pe_int (pa_cons (pe_op op_sub (pv 2) pe_int) (pa_cons pe_int (pa_cons (pe_op op_fdiv (pv 2) pe_int) pa_nil))))) (pv 5) (fun _ _ => rfl)) pa_nil))))
          (pss_one (ps_expr (pe_bm PySem.F.plainAttrs_list PySem.F.slot_list_append PySem.F.type_list_append mt_append (pv 3) (pa_cons (pe_call GD hr (by rfl) gD kD bD .nil pass0 (pa_cons (pv 0) (pa_cons (pv 2) pa_nil))) pa_nil))))))))
      (pss_one (ps_ret (pv 3)))), ?_⟩
    refine ⟨Nat.zero_le _, fun p hp => ?_⟩
    obtain ⟨npa, npc⟩ := hw.ne_new hp
    have old : ∀ b o, H b = some o → b ≠ p := fun b o e => ne_of_none e hp
    refine ⟨.int m, rfl, m, rfl, by omega, by omega, for_range (lo := 0) (n := m.toNat) (fun i σ H3 => ∃ y4 y5 xs, σ = [some (.ref a), some (.int m), some (.int t), some (.ref p), y4, y5] ∧ H3 p = some (.lst (xs.map V.int)) ∧ xs.length = i ∧ (∀ x ∈ xs, 0 ≤ x ∧ x < t) ∧ WL H3 a c ∧ Kp a c H H3)
      ⟨none, none, [], rfl, upd_same, rfl, (fun _ z => nomatch z), hw.upd npa npc, Same.kp (same_new hp)⟩ (fun i σ H3 hi hq => ?_) (fun σ H3 hq => ?_)⟩
    · obtain ⟨y4, y5, xs, rfl, ep, hl, hb, w3, k3⟩ := hq
      refine ⟨.ref a, rfl, a, c, 8, rfl, by decide, by decide, w3, fun H4 y y0 y1 w4 k4 => ?_⟩
      have ep4 := k4 _ _ npa npc ep
      have more : ∀ x : Int, 0 ≤ x → x < t → ∀ x' ∈ xs ++ [x], 0 ≤ x' ∧ x' < t := by
        intro x h0 h1 x' hx'
        rcases List.mem_append.mp hx' with h | h
        · exact hb x' h
        · rw [List.mem_singleton.mp h]
          exact ⟨h0, h1⟩
      have lens : ∀ x : Int, (xs ++ [x]).length = i + 1 := fun x => by
        rw [List.length_append, hl]
        rfl
      have puts : ∀ (H6 : Hp) (x : Int), Kp a c H H6 → Kp a c H (upd H6 p (.lst (xs.map V.int ++ [.int x]))) := fun H6 x k6 b o n1 n2 e => by
        rw [upd_ne (old b o e)]
        exact k6 b o n1 n2 e
      have small : (xs.map V.int).length < sizeLine := by
        rw [List.length_map]
        exact small1000 (by omega)
      refine ⟨.int y, rfl, y, 4, rfl, rfl, _, rfl, ite2 (fun e => ?_) (fun e => ?_)⟩
      · obtain ⟨x, hx, x0, x1⟩ := word_pick ht y0 (of_decide_eq_true e)
        refine ⟨.ref p, rfl, .inl ⟨rfl, _, .inl (.inl ep4)⟩, .int t, rfl, t, 1, rfl, rfl, .int t, rfl, t, 2, rfl, rfl, ⟨by decide, by decide⟩, by show 4 ≤ sizeLine; decide, fun l hl' => ?_⟩
        have sl := same_new (o := .lst [.int 0, .int (t - 1), .int 1, .int (t / 2)]) hl'
        obtain ⟨nla, nlc⟩ := w4.ne_new hl'
        refine ⟨.int y, rfl, l, _, y, .int x, rfl, rfl, .inl (.inl upd_same), hx, p, _, _, rfl, rfl, sl _ _ ep4, small, ?_⟩
        refine ⟨_, _, xs ++ [x], rfl, ?_, lens x, more x x0 x1, (w4.upd nla nlc).upd npa npc, puts _ x ((k3.trans k4).trans (Same.kp sl))⟩
        rw [upd_same, List.map_append]
        rfl
      · refine ⟨.ref p, rfl, .inl ⟨rfl, _, .inl (.inl ep4)⟩, .ref a, rfl, .int t, rfl, a, c, t, rfl, by omega, ht2, w4, fun H5 x x0 x1 w5 k5 => ?_⟩
        refine ⟨p, _, _, rfl, rfl, k5 _ _ npa npc ep4, small, ?_⟩
        refine ⟨_, _, xs ++ [x], rfl, ?_, lens x, more x x0 x1, w5.upd npa npc, puts _ x ((k3.trans k4).trans k5)⟩
        rw [upd_same, List.map_append]
        rfl
    · obtain ⟨y4, y5, xs, rfl, ep, hl, hb, w3, k3⟩ := hq
      exact ⟨.ref p, rfl, q H3 p xs ep (by omega) hb npa npc w3 k3⟩
/-! ### the law's own values -/
def spLv (K : PySem.W.Frag) : Sp := fun vs H Q _ => ∃ (x : Str) (L : Addr) (hs : List Int) (n : Nat), vs = [.str x, .ref L, .int (2 ^ n)] ∧ SqL K H L (hs.map V.int) ∧ (x, (hs.length : Int)) ∈ fwL ∧ (∀ y ∈ hs, 0 ≤ y ∧ y < 2 ^ n) ∧ 1 ≤ n ∧
  ∀ H', Same H H' → Q (.int (dvalue x (hs.getD 0 0) (hs.getD 1 0) (2 ^ n) % 2 ^ n)) H'
theorem ok_lv {f : Addr} {fd : FuncData} {k : Nat} (F : Fun K "_law_value" "_law_value" s_law_value f fd) : FnOk P w K mg base CX0 (k + 1) f fd ["word", "handed", "top"] (spLv K) := by
  refine F.ok sc_law_value (fun vs H Q E h => ?_) (fun cdv A outer s H vs Q E hr h => ?_)
  · obtain ⟨x, L, hs, n, rfl, _⟩ := h
    rfl
  · obtain ⟨x, L, hs, n, rfl, eL, hw, hb, hn, q⟩ := h
    refine ⟨_, pss_cons (ps_if (pt_cmpR (op_eqD hr.units) (pv 1) (pe_lst pa_nil) (nomark _)) (pss_one (ps_ret (pe_dget (hu_of hr) (pe_disp (pps_cons pe_str pe_int (pps_cons pe_str pe_int (pps_cons pe_str (pe_op op_sub (pv 2) pe_int) pps_nil))) (by rfl) (by rfl) (fun z => by cases z) (by decide)) (pv 0) (fun _ _ => rfl)))) pss_nil)
      (pss_cons (ps_par (by rfl) sc_law_value.nd (i := 3) (j := 4) rfl rfl (by decide) rfl rfl (pa_cons (pe_ix ix_list (pv 1) pe_int (fun _ _ => rfl)) (pa_cons (pe_ix ix_list (pv 1) (pe_un un_neg pe_int) (fun _ _ => rfl)) pa_nil)) (by rfl))
      (pss_cons (ps_if (pt_cmpR op_eq (pv 0) pe_str (nomark _)) (pss_one (ps_ret (pe_op op_sub (pe_op op_sub (pv 2) pe_int) (pv 3)))) pss_nil)
      (pss_cons (ps_if (pt_cmpR op_in_seq (pv 0) (pe_tup (pa_cons pe_str (pa_cons pe_str pa_nil))) (by rfl)) (pss_one (ps_ret (pe_op op_mod (pe_dget (hu_of hr) (pe_disp (pps_cons pe_str (pe_op op_sub pe_int (pv 3)) (pps_cons pe_str (pe_op op_add (pv 3) (pv 3)) pps_nil)) (by rfl) (by rfl) (fun z => by cases z) (by decide)) (pv 0) (fun _ _ => rfl)) (pv 2)))) pss_nil)
      (pss_cons (ps_if (pt_cmpR op_in_seq (pv 0) (pe_tup (pa_cons pe_str (pa_cons pe_str pa_nil))) (by rfl)) (pss_one (ps_ret (pe_op op_mod (pe_dget (hu_of hr) (pe_disp (pps_cons pe_str (pe_op op_add (pv 3) (pv 4)) (pps_cons pe_str (pe_op op_sub (pv 3) (pv 4)) pps_nil)) (by rfl) (by rfl) (fun z => by cases z) (by decide)) (pv 0) (fun _ _ => rfl)) (pv 2)))) pss_nil)
      (pss_one (ps_ret (pe_dget (hu_of hr) (pe_disp (pps_cons pe_str (pe_op op_and (pv 3) (pv 4)) (pps_cons pe_str (pe_op op_or (pv 3) (pv 4)) (pps_cons pe_str (pe_op op_xor (pv 3) (pv 4)) pps_nil))) (by rfl) (by rfl) (fun z => by cases z) (by decide)) (pv 0) (fun _ _ => rfl)))))))), ?_⟩
    have npos := pw_pos n
    have p2 : (2 : Int) ≤ 2 ^ n := by
      have := pw_le hn
      simpa using this
    refine ⟨.ref L, rfl, Nat.zero_le _, fun e he => ?_⟩
    have se := same_new (o := .lst []) he
    refine ⟨.list (hs.map PyData.int), .list (([] : List Int).map PyData.int), .lst (se.seq eL) (dp_ints hs), .lst (.inl (.inl upd_same)) .nil, shaped_ints hs, shaped_ints [], _, rfl, ?_⟩
    rcases fw_cases hw with ⟨h0, hx⟩ | ⟨h1, hx⟩ | ⟨h2, hx⟩
    · obtain rfl := List.length_eq_zero_iff.mp h0
      rw [eqv_ints]
      intro p hp
      have sp := fun o => se.trans (same_new (o := o) hp)
      refine ⟨.int (2 ^ n), rfl, 2 ^ n, 1, rfl, rfl, upd_same, [(Sum.inr "none", .int 0), (Sum.inr "one", .int 1), (Sum.inr "all", .int (2 ^ n - 1))], rfl, (by show 3 ≤ 15; decide), .str x, rfl, p, ?_⟩
      rw [upd_upd]
      rcases hx with rfl | rfl | rfl
      · exact ⟨.int 0, rfl, dget_at (k := Sum.inr "none") upd_same rfl, (Int.zero_emod ((2 : Int) ^ n)) ▸ q _ (sp _)⟩
      · have e1 : (1 : Int) % 2 ^ n = 1 := Int.emod_eq_of_lt (by decide) (by omega)
        exact ⟨.int 1, rfl, dget_at (k := Sum.inr "one") upd_same rfl, e1 ▸ q _ (sp _)⟩
      · have e1 : ((2 : Int) ^ n - 1) % 2 ^ n = 2 ^ n - 1 := Int.emod_eq_of_lt (by omega) (by omega)
        have q1 := q _ (sp (.dK (mergeK [] [(Sum.inr "none", .int 0), (Sum.inr "one", .int 1), (Sum.inr "all", .int (2 ^ n - 1))])))
        refine ⟨.int (2 ^ n - 1), rfl, dget_at (k := Sum.inr "all") upd_same rfl, ?_⟩
        rw [show dvalue "all" (([] : List Int).getD 0 0) (([] : List Int).getD 1 0) (2 ^ n) = 2 ^ n - 1 from rfl, e1] at q1
        exact q1
    · obtain ⟨y, rfl⟩ := List.length_eq_one_iff.mp h1
      obtain ⟨y0, y1⟩ := hb y List.mem_cons_self
      rw [show PyData.eqv (.list ([y].map PyData.int)) (.list (([] : List Int).map PyData.int)) = false by simp only [List.map_cons, List.map_nil, PyData.eqv, PyData.eqvAll]]
      have eL2 := se.seq eL
      refine ⟨.ref L, rfl, L, _, 0, .int y, rfl, rfl, eL2, rfl, .ref L, rfl, 1, rfl, L, _, -1, .int y, rfl, rfl, eL2, rfl, .int y, .int y, rfl, ?_⟩
      rcases hx with rfl | rfl | rfl
      · have e1 : ((2 : Int) ^ n - 1 - y) % 2 ^ n = 2 ^ n - 1 - y := Int.emod_eq_of_lt (by omega) (by omega)
        have q1 := q _ se
        rw [show dvalue "not" ([y].getD 0 0) ([y].getD 1 0) (2 ^ n) = 2 ^ n - 1 - y from rfl, e1] at q1
        exact ⟨.str "not", rfl, rfl, _, rfl, .int (2 ^ n), rfl, 2 ^ n, 1, rfl, rfl, .int y, rfl, _, y, rfl, rfl, q1⟩
      · refine ⟨.str "neg", rfl, rfl, _, rfl, .str "neg", rfl, by show 2 ≤ sizeLine; decide, fun T hT => ?_⟩
        refine ⟨T, _, rfl, .inr (SqT.of upd_same), rfl, rfl, _, rfl, fun p hp => ?_⟩
        refine ⟨.int y, rfl, 0, y, rfl, rfl, .int y, rfl, .int y, rfl, y, y, rfl, rfl, upd_same, [(Sum.inr "neg", .int (0 - y)), (Sum.inr "twice", .int (y + y))], rfl, (by show 2 ≤ 15; decide), .str "neg", rfl, p, .int (0 - y), rfl, ?_, .int (2 ^ n), rfl, _, 2 ^ n, rfl, rfl, npos, ?_⟩
        · exact dget_at (k := Sum.inr "neg") upd_same rfl
        · rw [upd_upd]
          have q1 := q _ ((se.trans (same_new hT)).trans (same_new (o := .dK (mergeK [] [(Sum.inr "neg", .int (0 - y)), (Sum.inr "twice", .int (y + y))])) hp))
          rw [show dvalue "neg" ([y].getD 0 0) ([y].getD 1 0) (2 ^ n) = 0 - y from (Int.zero_sub y).symm] at q1
          exact q1
      · refine ⟨.str "twice", rfl, rfl, _, rfl, .str "twice", rfl, by show 2 ≤ sizeLine; decide, fun T hT => ?_⟩
        refine ⟨T, _, rfl, .inr (SqT.of upd_same), rfl, rfl, _, rfl, fun p hp => ?_⟩
        refine ⟨.int y, rfl, 0, y, rfl, rfl, .int y, rfl, .int y, rfl, y, y, rfl, rfl, upd_same, [(Sum.inr "neg", .int (0 - y)), (Sum.inr "twice", .int (y + y))], rfl, (by show 2 ≤ 15; decide), .str "twice", rfl, p, .int (y + y), rfl, ?_, .int (2 ^ n), rfl, _, 2 ^ n, rfl, rfl, npos, ?_⟩
        · exact dget_at (k := Sum.inr "twice") upd_same rfl
        · rw [upd_upd]
          exact q _ ((se.trans (same_new hT)).trans (same_new (o := .dK (mergeK [] [(Sum.inr "neg", .int (0 - y)), (Sum.inr "twice", .int (y + y))])) hp))
    · obtain ⟨y, z, rfl⟩ : ∃ y z, hs = [y, z] := by
        match hs, h2 with
        | [y, z], _ => exact ⟨y, z, rfl⟩
      obtain ⟨y0, y1⟩ := hb y List.mem_cons_self
      obtain ⟨z0, z1⟩ := hb z (List.mem_cons_of_mem _ List.mem_cons_self)
      rw [show PyData.eqv (.list ([y, z].map PyData.int)) (.list (([] : List Int).map PyData.int)) = false by simp only [List.map_cons, List.map_nil, PyData.eqv, PyData.eqvAll]]
      have eL2 := se.seq eL
      refine ⟨.ref L, rfl, L, _, 0, .int y, rfl, rfl, eL2, rfl, .ref L, rfl, 1, rfl, L, _, -1, .int z, rfl, rfl, eL2, rfl, .int y, .int z, rfl, ?_⟩
      have fin : ∀ (x : Str) (r : Int), (x = "and" ∧ r = Builtin.bitAnd y z) ∨ (x = "or" ∧ r = Builtin.bitOr y z) ∨ (x = "xor" ∧ r = Builtin.bitXor y z) → valV (mergeK [] [(Sum.inr "and", .int (Builtin.bitAnd y z)), (Sum.inr "or", .int (Builtin.bitOr y z)), (Sum.inr "xor", .int (Builtin.bitXor y z))]) (Sum.inr x) = some (.int r) ∧ dvalue x y z (2 ^ n) % 2 ^ n = r := by
        rintro x r (⟨rfl, rfl⟩ | ⟨rfl, rfl⟩ | ⟨rfl, rfl⟩)
        · exact ⟨rfl, and_lt y0 y1 z0⟩
        · exact ⟨rfl, or_lt y0 y1 z0 z1⟩
        · exact ⟨rfl, xor_lt y0 y1 z0 z1⟩
      rcases hx with rfl | rfl | rfl | rfl | rfl
      · obtain ⟨v1, v2⟩ := fin "and" _ (.inl ⟨rfl, rfl⟩)
        refine ⟨.str "and", rfl, rfl, _, rfl, .str "and", rfl, by show 2 ≤ sizeLine; decide, fun T hT => ?_⟩
        refine ⟨T, _, rfl, .inr (SqT.of upd_same), rfl, rfl, _, rfl, .str "and", rfl, by show 2 ≤ sizeLine; decide, fun U hU => ?_⟩
        refine ⟨U, _, rfl, .inr (SqT.of upd_same), rfl, rfl, _, rfl, fun p hp => ?_⟩
        refine ⟨.int y, rfl, .int z, rfl, y, z, rfl, rfl, .int y, rfl, .int z, rfl, y, z, rfl, rfl, .int y, rfl, .int z, rfl, y, z, rfl, rfl, upd_same, [(Sum.inr "and", .int (Builtin.bitAnd y z)), (Sum.inr "or", .int (Builtin.bitOr y z)), (Sum.inr "xor", .int (Builtin.bitXor y z))], rfl, (by show 3 ≤ 15; decide), .str "and", rfl, p, _, rfl, dget_at (k := Sum.inr "and") upd_same v1, ?_⟩
        rw [upd_upd]
        have q1 := q _ (((se.trans (same_new hT)).trans (same_new hU)).trans (same_new (o := .dK (mergeK [] [(Sum.inr "and", .int (Builtin.bitAnd y z)), (Sum.inr "or", .int (Builtin.bitOr y z)), (Sum.inr "xor", .int (Builtin.bitXor y z))])) hp))
        rw [show dvalue "and" ([y, z].getD 0 0) ([y, z].getD 1 0) (2 ^ n) = dvalue "and" y z (2 ^ n) from rfl, v2] at q1
        exact q1
      · obtain ⟨v1, v2⟩ := fin "or" _ (.inr (.inl ⟨rfl, rfl⟩))
        refine ⟨.str "or", rfl, rfl, _, rfl, .str "or", rfl, by show 2 ≤ sizeLine; decide, fun T hT => ?_⟩
        refine ⟨T, _, rfl, .inr (SqT.of upd_same), rfl, rfl, _, rfl, .str "or", rfl, by show 2 ≤ sizeLine; decide, fun U hU => ?_⟩
        refine ⟨U, _, rfl, .inr (SqT.of upd_same), rfl, rfl, _, rfl, fun p hp => ?_⟩
        refine ⟨.int y, rfl, .int z, rfl, y, z, rfl, rfl, .int y, rfl, .int z, rfl, y, z, rfl, rfl, .int y, rfl, .int z, rfl, y, z, rfl, rfl, upd_same, [(Sum.inr "and", .int (Builtin.bitAnd y z)), (Sum.inr "or", .int (Builtin.bitOr y z)), (Sum.inr "xor", .int (Builtin.bitXor y z))], rfl, (by show 3 ≤ 15; decide), .str "or", rfl, p, _, rfl, dget_at (k := Sum.inr "or") upd_same v1, ?_⟩
        rw [upd_upd]
        have q1 := q _ (((se.trans (same_new hT)).trans (same_new hU)).trans (same_new (o := .dK (mergeK [] [(Sum.inr "and", .int (Builtin.bitAnd y z)), (Sum.inr "or", .int (Builtin.bitOr y z)), (Sum.inr "xor", .int (Builtin.bitXor y z))])) hp))
        rw [show dvalue "or" ([y, z].getD 0 0) ([y, z].getD 1 0) (2 ^ n) = dvalue "or" y z (2 ^ n) from rfl, v2] at q1
        exact q1
      · obtain ⟨v1, v2⟩ := fin "xor" _ (.inr (.inr ⟨rfl, rfl⟩))
        refine ⟨.str "xor", rfl, rfl, _, rfl, .str "xor", rfl, by show 2 ≤ sizeLine; decide, fun T hT => ?_⟩
        refine ⟨T, _, rfl, .inr (SqT.of upd_same), rfl, rfl, _, rfl, .str "xor", rfl, by show 2 ≤ sizeLine; decide, fun U hU => ?_⟩
        refine ⟨U, _, rfl, .inr (SqT.of upd_same), rfl, rfl, _, rfl, fun p hp => ?_⟩
        refine ⟨.int y, rfl, .int z, rfl, y, z, rfl, rfl, .int y, rfl, .int z, rfl, y, z, rfl, rfl, .int y, rfl, .int z, rfl, y, z, rfl, rfl, upd_same, [(Sum.inr "and", .int (Builtin.bitAnd y z)), (Sum.inr "or", .int (Builtin.bitOr y z)), (Sum.inr "xor", .int (Builtin.bitXor y z))], rfl, (by show 3 ≤ 15; decide), .str "xor", rfl, p, _, rfl, dget_at (k := Sum.inr "xor") upd_same v1, ?_⟩
        rw [upd_upd]
        have q1 := q _ (((se.trans (same_new hT)).trans (same_new hU)).trans (same_new (o := .dK (mergeK [] [(Sum.inr "and", .int (Builtin.bitAnd y z)), (Sum.inr "or", .int (Builtin.bitOr y z)), (Sum.inr "xor", .int (Builtin.bitXor y z))])) hp))
        rw [show dvalue "xor" ([y, z].getD 0 0) ([y, z].getD 1 0) (2 ^ n) = dvalue "xor" y z (2 ^ n) from rfl, v2] at q1
        exact q1
      · refine ⟨.str "add", rfl, rfl, _, rfl, .str "add", rfl, by show 2 ≤ sizeLine; decide, fun T hT => ?_⟩
        refine ⟨T, _, rfl, .inr (SqT.of upd_same), rfl, rfl, _, rfl, .str "add", rfl, by show 2 ≤ sizeLine; decide, fun U hU => ?_⟩
        refine ⟨U, _, rfl, .inr (SqT.of upd_same), rfl, rfl, _, rfl, fun p hp => ?_⟩
        refine ⟨.int y, rfl, .int z, rfl, y, z, rfl, rfl, .int y, rfl, .int z, rfl, y, z, rfl, rfl, upd_same, [(Sum.inr "add", .int (y + z)), (Sum.inr "sub", .int (y - z))], rfl, (by show 2 ≤ 15; decide), .str "add", rfl, p, .int (y + z), rfl, dget_at (k := Sum.inr "add") upd_same rfl, .int (2 ^ n), rfl, _, 2 ^ n, rfl, rfl, npos, ?_⟩
        rw [upd_upd]
        exact q _ (((se.trans (same_new hT)).trans (same_new hU)).trans (same_new (o := .dK (mergeK [] [(Sum.inr "add", .int (y + z)), (Sum.inr "sub", .int (y - z))])) hp))
      · refine ⟨.str "sub", rfl, rfl, _, rfl, .str "sub", rfl, by show 2 ≤ sizeLine; decide, fun T hT => ?_⟩
        refine ⟨T, _, rfl, .inr (SqT.of upd_same), rfl, rfl, _, rfl, .str "sub", rfl, by show 2 ≤ sizeLine; decide, fun U hU => ?_⟩
        refine ⟨U, _, rfl, .inr (SqT.of upd_same), rfl, rfl, _, rfl, fun p hp => ?_⟩
        refine ⟨.int y, rfl, .int z, rfl, y, z, rfl, rfl, .int y, rfl, .int z, rfl, y, z, rfl, rfl, upd_same, [(Sum.inr "add", .int (y + z)), (Sum.inr "sub", .int (y - z))], rfl, (by show 2 ≤ 15; decide), .str "sub", rfl, p, .int (y - z), rfl, dget_at (k := Sum.inr "sub") upd_same rfl, .int (2 ^ n), rfl, _, 2 ^ n, rfl, rfl, npos, ?_⟩
        rw [upd_upd]
        exact q _ (((se.trans (same_new hT)).trans (same_new hU)).trans (same_new (o := .dK (mergeK [] [(Sum.inr "add", .int (y + z)), (Sum.inr "sub", .int (y - z))])) hp))
def spLvs (K : PySem.W.Frag) : Sp := fun vs H Q _ => ∃ (R W : Addr) (m o : Int) (ds : List Deed) (xs : List Int) (n : Nat), vs = [.ref R, .int (2 ^ n), .ref W] ∧ RowAt H R m ds o ∧ DsOk m ds ∧ ds.length ≤ 100 ∧ SqL K H W (xs.map V.int) ∧ (xs.length : Int) = m ∧ xs.length ≤ 100 ∧ 1 ≤ n ∧ (∀ x ∈ xs, 0 ≤ x ∧ x < 2 ^ n) ∧
  ∀ H' L, Same H H' → H L = none → H' L = some (.lst ((vals (2 ^ n) ds xs).map V.int)) → Q (.ref L) H'
theorem ok_lvs {f fV : Addr} {fd fdV : FuncData} {k : Nat} (F : Fun K "_law_values" "_law_values" s_law_values f fd) (GV : FnOk P w K mg base CX0 (k + 1) fV fdV ["word", "handed", "top"] (spLv K)) (kV : PySem.W.keepIn K (.ref fV) = true) (bV : Binds K fdV ["word", "handed", "top"] [])
    (gV : mg "_law_value" = some (.ref fV)) (ml : mg "list" = none) : FnOk P w K mg base CX0 (k + 2) f fd ["row", "top", "words"] (spLvs K) := by
  refine F.ok sc_law_values (fun vs H Q E h => ?_) (fun cdv A outer s H vs Q E hr h => ?_)
  · obtain ⟨R, W, m, o, ds, xs, n, rfl, _⟩ := h
    rfl
  · obtain ⟨R, W, m, o, ds, xs, n, rfl, hrow, hok, hds, eW, hm, hxs, hn, hxr, q⟩ := h
    obtain ⟨D, rs, eR, eD, hd⟩ := id hrow
    refine ⟨_, pss_cons (ps_set (i := 3) sc_law_values.nd rfl (.inr rfl) (pe_callTy call_list_of (by rfl) ml (by decide +kernel) (pa_cons (pv 2) pa_nil)))
      (pss_cons (ps_for PassesOwn.never rfl (pi_tup (pe_ix ix_tup (pv 0) pe_int (fun _ _ => rfl))) (pg_name (i := 4) sc_law_values.nd rfl (.inl rfl))
        (pss_one (ps_expr (pe_bm PySem.F.plainAttrs_list PySem.F.slot_list_append PySem.F.type_list_append mt_append (pv 3) (pa_cons (pe_call GV hr (by rfl) gV kV bV .nil pass0 (pa_cons (pe_ix ix_tup (pv 4) pe_int (fun _ _ => rfl)) (pa_cons
          (pe_lc (own := [("number", 5)]) (g := gName 5) (by rfl) sc_law_values.nd (pi_tup (pe_slice sl_tup (pv 4) (po_some pe_int) po_none)) (blkOk_by (own := [("number", 5)]) (N := N_law_values) (sc := defScope s_law_values) (by decide +kernel))
            (fun _ _ _ _ _ => pg_name (i := 5) sc_law_values.nd rfl (Or.inl rfl)) (fun _ _ _ _ _ => pts_nil) (fun _ _ _ _ _ => pe_ix (r := rIxL K) ix_list (pv 3) (pv 5) (fun _ _ => rfl)))
          (pa_cons (pv 1) pa_nil)))) pa_nil)))))
      (pss_one (ps_ret (pv 3)))), ?_⟩
    have npos := pw_pos n
    refine ⟨.ref W, rfl, W, _, rfl, .inl eW, fun L hL => ?_⟩
    have sL := same_new (o := .lst (xs.map V.int)) hL
    refine ⟨.ref R, rfl, R, _, 1, .ref D, rfl, rfl, SqT.of (sL _ _ eR), rfl, D, rfl, ⟨_, SqT.of (sL _ _ eD)⟩, for_tup (K := K) (a := D) (xs := rs.map V.ref) (fun i σ H3 => ∃ y, σ = [some (.ref R), some (.int (2 ^ n)), some (.ref W), some (.ref L), y, none] ∧ H3 L = some (.lst ((vals (2 ^ n) (ds.take i) xs).map V.int)) ∧ Same H H3) ⟨none, rfl, upd_same, sL⟩ (fun i σ H3 _ hp => ?_) (fun i x σ H3 hx hp => ?_) (fun σ H3 hp => ?_)⟩
    · obtain ⟨_, _, _, sm⟩ := hp
      exact SqT.of (sm _ _ eD)
    · obtain ⟨y, rfl, e3, sm⟩ := hp
      have hi : i < rs.length := by
        have := (List.getElem?_eq_some_iff.mp hx).1
        rwa [List.length_map] at this
      have hx' : x = .ref rs[i] := by
        rw [List.getElem?_map, List.getElem?_eq_getElem hi] at hx
        exact (Option.some.inj hx).symm
      subst hx'
      obtain ⟨d, hd1, hd2⟩ := awGet hd (List.getElem?_eq_getElem hi)
      have h2 : i < ds.length := by
        rw [← awLen hd]
        exact hi
      obtain ⟨told, htold⟩ : ∃ told, told = vals (2 ^ n) (ds.take i) xs := ⟨_, rfl⟩
      rw [← htold] at e3
      have hlen : told.length = xs.length + i := by
        rw [htold, vals_len, List.length_take, Nat.min_eq_left (Nat.le_of_lt h2)]
      have okd : DeedOk told.length d := by
        rw [hlen]
        have := hok.each i d hd1
        rw [← hm] at this
        exact this
      have rng : ∀ y ∈ told, 0 ≤ y ∧ y < 2 ^ n := by
        rw [htold]
        exact vals_range npos _ _ hxr
      have er := sm _ _ hd2
      refine ⟨.ref L, rfl, .inl ⟨rfl, _, .inl (.inl e3)⟩, .ref rs[i], rfl, rs[i], _, 0, .str d.1, rfl, rfl, SqT.of er, dv0 d, .ref rs[i], rfl, 1, rfl, rs[i], dV d, rfl, SqT.of er, notWhole _ _, fun T hT => ?_⟩
      have eT : cutV (dV d) (some 1) none = d.2.map V.int := cutTail _ _
      rw [eT]
      have sT := same_new (o := .tup (d.2.map V.int)) hT
      refine ⟨T, rfl, ⟨_, SqT.of upd_same⟩, fun C hC => ?_⟩
      have sC := fun o => sT.trans (same_new (o := o) hC)
      have eTC : ∀ o, upd (upd H3 T (.tup (d.2.map V.int))) C o T = some (.tup (d.2.map V.int)) := fun o => same_new hC _ _ upd_same
      refine lc_tup (K := K) (a := T) (xs := d.2.map V.int) (fun j H4 => H4 = upd (upd H3 T (.tup (d.2.map V.int))) C (.lst (((d.2.take j).map fun z => told.getD z.toNat 0).map V.int))) rfl (fun j H4 _ hp => ?_) (fun j x H4 hx hp => ?_) (fun H4 hp => ?_)
      · rw [hp]
        exact SqT.of (eTC _)
      · obtain ⟨z, hz, rfl⟩ : ∃ z, d.2[j]? = some z ∧ x = .int z := by
          rw [List.getElem?_map] at hx
          cases e : d.2[j]? with
          | none => rw [e] at hx; cases hx
          | some z => rw [e] at hx; exact ⟨z, rfl, (Option.some.inj hx).symm⟩
        obtain ⟨z0, z1⟩ := okd.ahead z (List.mem_of_getElem? hz)
        subst hp
        refine ⟨rfl, .ref L, rfl, .int z, rfl, L, _, z, _, rfl, rfl, .inl (.inl (sC _ _ _ e3)), atI_ints z0 z1, _, upd_same, ?_, ?_⟩
        · rw [List.length_map, List.length_map, List.length_take]
          have := (fw_short _ okd.word).2.2
          have e2 : (d.2.length : Int) ≤ 2 := this
          exact small1000 (by omega)
        · rw [upd_upd, List.take_add_one, hz]
          simp
      · subst hp
        have elen : (d.2.map V.int).length = d.2.length := List.length_map _
        rw [elen, List.take_length]
        obtain ⟨hs, ehs⟩ : ∃ hs, hs = d.2.map fun z => told.getD z.toNat 0 := ⟨_, rfl⟩
        rw [← ehs]
        refine ⟨.int (2 ^ n), rfl, d.1, C, hs, n, rfl, .inl (.inl upd_same), ?_, ?_, hn, fun H5 s5 => ?_⟩
        · rw [ehs, List.length_map]
          exact okd.word
        · intro y hy
          rw [ehs] at hy
          obtain ⟨z, hz, rfl⟩ := List.mem_map.mp hy
          obtain ⟨z0, z1⟩ := okd.ahead z hz
          have hzl : z.toNat < told.length := by omega
          rw [List.getD_eq_getElem?_getD, List.getElem?_eq_getElem hzl]
          exact rng _ (List.getElem_mem hzl)
        · have eA : ∀ j, j < d.2.length → hs.getD j 0 = argAt d told j := by
            intro j hj
            unfold argAt
            rw [ehs, List.getD_eq_getElem?_getD, List.getElem?_map, List.getElem?_eq_getElem hj, List.getD_eq_getElem?_getD (l := d.2), List.getElem?_eq_getElem hj]
            rfl
          have eD2 : dvalue d.1 (hs.getD 0 0) (hs.getD 1 0) (2 ^ n) % 2 ^ n = dval (2 ^ n) d told := by
            unfold dval
            rcases fw_cases okd.word with ⟨l0, hx⟩ | ⟨l1, hx⟩ | ⟨l2, hx⟩
            · rcases hx with e | e | e <;> rw [e] <;> rfl
            · rw [eA 0 (by omega)]
              rcases hx with e | e | e <;> rw [e] <;> rfl
            · rw [eA 0 (by omega), eA 1 (by omega)]
          rw [eD2]
          have e5 : H5 L = some (.lst (told.map V.int)) := s5 _ _ (sC _ _ _ e3)
          refine ⟨L, _, _, rfl, rfl, e5, ?_, some (.ref rs[i]), rfl, ?_, ?_⟩
          · rw [List.length_map, hlen]
            exact small1000 (by omega)
          · rw [upd_same, vals_next hd1, ← htold, List.map_append]
            rfl
          · intro b u e
            rw [upd_ne (ne_of_none e hL)]
            exact s5 b u (sC _ b u (sm b u e))
    · obtain ⟨y, rfl, e3, sm⟩ := hp
      rw [List.length_map, awLen hd, List.take_length] at e3
      exact ⟨.ref L, rfl, q H3 L sm hL e3⟩
/-! ### all choices of words -/
def allW (t : Nat) : Nat → List (List Int)
  | 0 => [[]]
  | m + 1 => (List.range t).flatMap fun (x : Nat) => (allW t m).map fun r => (x : Int) :: r
theorem flat_sum {α β : Type} (g : β → Nat) (h : α → List β) : ∀ l : List α, ((l.flatMap h).map g).sum = (l.map fun x => ((h x).map g).sum).sum
  | [] => rfl
  | x :: l => by
    rw [List.flatMap_cons, List.map_append, List.sum_append, flat_sum g h l, List.map_cons, List.sum_cons]
theorem allW_sum (t : Nat) : ∀ (m : Nat) (f : List Int → Nat), ((allW t m).map f).sum = wsum t m f
  | 0, f => by
    show ([[]].map f).sum = f []
    simp
  | m + 1, f => by
    show (((List.range t).flatMap fun (x : Nat) => (allW t m).map fun r => (x : Int) :: r).map f).sum = ((List.range t).map fun (x : Nat) => wsum t m fun r => f ((x : Int) :: r)).sum
    rw [flat_sum]
    congr 1
    refine List.map_congr_left fun x _ => ?_
    rw [List.map_map]
    exact allW_sum t m fun r => f ((x : Int) :: r)
theorem allW_ok (t : Nat) : ∀ m, ∀ xs ∈ allW t m, xs.length = m ∧ ∀ x ∈ xs, 0 ≤ x ∧ x < (t : Int)
  | 0, xs, h => by
    rw [List.mem_singleton.mp h]
    exact ⟨rfl, fun _ z => nomatch z⟩
  | m + 1, xs, h => by
    obtain ⟨x, hx, h2⟩ := List.mem_flatMap.mp h
    obtain ⟨r, hr, rfl⟩ := List.mem_map.mp h2
    obtain ⟨a, b⟩ := allW_ok t m r hr
    refine ⟨by rw [List.length_cons, a], fun y hy => ?_⟩
    rcases List.mem_cons.mp hy with rfl | hy
    · have := List.mem_range.mp hx
      omega
    · exact b y hy
theorem allW_len (t : Nat) : ∀ m, (allW t m).length = t ^ m
  | 0 => rfl
  | m + 1 => by
    have e : (allW t (m + 1)).length = ((allW t (m + 1)).map fun _ => 1).sum := by
      rw [List.map_const', List.sum_replicate_nat, Nat.mul_one]
    have e0 : (allW t m).length = ((allW t m).map fun _ => 1).sum := by
      rw [List.map_const', List.sum_replicate_nat, Nat.mul_one]
    rw [e, allW_sum]
    show ((List.range t).map fun (_ : Nat) => wsum t m fun _ => 1).sum = _
    rw [← allW_sum, ← e0, allW_len t m, List.map_const', List.sum_replicate_nat, List.length_range, Nat.pow_succ, Nat.mul_comm]
abbrev LsAt (H : Hp) : List Addr → List (List Int) → Prop := Paired fun a xs => H a = some (.lst (xs.map V.int))
def spAw : Sp := fun vs H Q _ => ∃ (m t : Nat), vs = [.int (m : Int), .int (t : Int)] ∧ m ≤ 3 ∧ t ≤ 256 ∧ (∀ j, j ≤ m → t ^ j ≤ 4096) ∧
  ∀ H' L as, Same H H' → H L = none → H' L = some (.lst (as.map V.ref)) → LsAt H' as (allW t m) → Q (.ref L) H'
theorem lsat_but {H H' : Hp} {L : Addr} (k : ∀ b o, b ≠ L → H b = some o → H' b = some o) : ∀ {as : List Addr} {W : List (List Int)}, (∀ a ∈ as, a ≠ L) → LsAt H as W → LsAt H' as W
  | _, _, _, .nil => .nil
  | _, _, hn, .cons h t => .cons (k _ _ (hn _ List.mem_cons_self) h) (lsat_but k (fun a ha => hn a (List.mem_cons_of_mem _ ha)) t)
theorem lsat_same {H H' : Hp} (s : Same H H') {as : List Addr} {W : List (List Int)} (h : LsAt H as W) : LsAt H' as W := awMap (fun a _ e => s a _ e) h
set_option maxHeartbeats 4000000 in
theorem ok_aw {f : Addr} {fd : FuncData} {k : Nat} (F : Fun K "_law_all_words" "_law_all_words" s_law_all_words f fd) (mr : mg "range" = none) : FnOk P w K mg base CX0 (k + 1) f fd ["many", "top"] spAw := by
  refine F.ok sc_law_all_words (fun vs H Q E h => ?_) (fun cdv A outer s H vs Q E hr h => ?_)
  · obtain ⟨m, t, rfl, _⟩ := h
    rfl
  · obtain ⟨m, t, rfl, hm, ht, hp, q⟩ := h
    refine ⟨_, pss_cons (ps_set (i := 2) sc_law_all_words.nd rfl (.inl rfl) (pe_lst (pa_cons (pe_lst pa_nil) pa_nil)))
      (pss_cons (ps_for PassesOwn.never rfl (pi_range1 (by rfl) mr (pa_cons (pv 0) pa_nil)) (pg_name (i := 3) sc_law_all_words.nd rfl (.inl rfl))
        (pss_cons (ps_set (i := 4) sc_law_all_words.nd rfl (.inl rfl) (pe_lst pa_nil))
        (pss_cons (ps_for PassesOwn.never rfl (pi_range1 (by rfl) mr (pa_cons (pv 1) pa_nil)) (pg_name (i := 5) sc_law_all_words.nd rfl (.inr rfl))
          (pss_one (ps_expr (pe_bm PySem.F.plainAttrs_list PySem.F.slot_list_extend PySem.F.type_list_extend mt_extend (pv 4) (pa_cons
            (pe_lc (own := [("some", 6)]) (g := gName 6) (by rfl) sc_law_all_words.nd (pi_list (pv 2)) (blkOk_by (own := [("some", 6)]) (N := N_law_all_words) (sc := defScope s_law_all_words) (by decide +kernel))
              (fun _ _ _ _ _ => pg_name (i := 6) sc_law_all_words.nd rfl (Or.inl rfl)) (fun _ _ _ _ _ => pts_nil) (fun _ _ _ _ _ => pe_op op_cat (pe_lst (pa_cons (pv 5) pa_nil)) (pv 6))) pa_nil)))))
        (pss_one (ps_set (i := 2) sc_law_all_words.nd rfl (.inl rfl) (pv 4))))))
      (pss_one (ps_ret (pv 2)))), ?_⟩
    refine ⟨Nat.zero_le _, fun E0' hE0 => ⟨(by show 1 ≤ sizeLine; decide), fun L hL => ?_⟩⟩
    have sE := same_new (o := .lst []) hE0
    have sL := same_new (o := .lst [.ref E0']) hL
    have hL0 : H L = none := sE.free hL
    refine ⟨.int (m : Int), rfl, (m : Int), rfl, by omega, by omega, for_range (lo := 0) (n := ((m : Int)).toNat) (fun i σ H3 => ∃ y3 y4 y5 L as, σ = [some (.int (m : Int)), some (.int (t : Int)), some (.ref L), y3, y4, y5, none] ∧ H3 L = some (.lst (as.map V.ref)) ∧ LsAt H3 as (allW t i) ∧ Same H H3 ∧ H L = none) ⟨none, none, none, L, [E0'], rfl, upd_same, .cons (sL _ _ upd_same) .nil, sE.trans sL, hL0⟩ (fun i σ H3 hi h3 => ?_) (fun σ H3 h3 => ?_)⟩
    · obtain ⟨y3, y4, y5, L, as, rfl, eL, has, s3, hL0⟩ := h3
      have hi' : i < m := by omega
      have la := awLen has
      rw [allW_len] at la
      have p1 := hp i (by omega)
      have p2 := hp (i + 1) (by omega)
      refine ⟨Nat.zero_le _, fun N hN => ?_⟩
      have sN := same_new (o := .lst []) hN
      have hN0 : H N = none := s3.free hN
      refine ⟨.int (t : Int), rfl, (t : Int), rfl, by omega, by omega, for_range (lo := 0) (n := ((t : Int)).toNat) (fun j σ H4 => ∃ y5 bs, σ = [some (.int (m : Int)), some (.int (t : Int)), some (.ref L), some (.int (0 + (i : Int))), some (.ref N), y5, none] ∧ H4 N = some (.lst (bs.map V.ref)) ∧ LsAt H4 bs ((List.range j).flatMap fun (x : Nat) => (allW t i).map fun r => (x : Int) :: r) ∧ (∀ b ∈ bs, b ≠ N) ∧ Same H3 H4) ⟨_, [], rfl, upd_same, .nil, (fun _ z => nomatch z), sN⟩ (fun j σ H4 hj h4 => ?_) (fun σ H4 h4 => ?_)⟩
      · obtain ⟨y5, bs, rfl, eN, hbs, nbs, s4⟩ := h4
        have hj' : j < t := by omega
        have eL4 := s4 _ _ eL
        have has4 := lsat_same s4 has
        refine ⟨.ref N, rfl, .inl ⟨rfl, _, .inl (.inl eN)⟩, .ref L, rfl, L, rfl, ⟨_, .inl (.inl eL4)⟩, fun C hC => ?_⟩
        refine lc_list (K := K) (a := L) (xs := as.map V.ref) (fun u H5 => ∃ cs, H5 C = some (.lst (cs.map V.ref)) ∧ LsAt H5 cs (((allW t i).take u).map fun r => ((j : Nat) : Int) :: r) ∧ (∀ b ∈ cs, b ≠ N) ∧ (∀ b ∈ cs, b ≠ C) ∧ Same H4 H5) ⟨[], upd_same, .nil, (fun _ z => nomatch z), (fun _ z => nomatch z), same_new hC⟩ (fun u H5 _ h5 => by
          obtain ⟨_, _, _, _, _, s5⟩ := h5
          exact .inl (.inl (s5 _ _ eL4))) (fun u x H5 hx h5 => ?_) (fun H5 h5 => ?_)
        · obtain ⟨cs, eC, hcs, ncs, ncc, s5⟩ := h5
          have hu := (List.getElem?_eq_some_iff.mp hx).1
          rw [List.length_map] at hu
          rw [List.getElem?_map] at hx
          obtain ⟨sa, hsa, rfl⟩ := Option.map_eq_some_iff.mp hx
          obtain ⟨r, hr1, hr2⟩ := awGet has4 hsa
          have hr2' : H4 sa = some (.lst (r.map V.int)) := hr2
          have rl := (allW_ok t i r (List.mem_of_getElem? hr1)).1
          have lc := awLen hcs
          rw [List.length_map, List.length_take] at lc
          refine ⟨rfl, .int (0 + (j : Int)), rfl, (by show 1 ≤ sizeLine; decide), fun W1 hW1 => ?_⟩
          have sW1 := same_new (o := .lst [.int (0 + (j : Int))]) hW1
          refine ⟨.ref sa, rfl, W1, sa, _, _, rfl, rfl, upd_same, sW1 _ _ (s5 _ _ hr2'), ?_, fun W2 hW2 => ?_⟩
          · rw [List.length_map, rl]
            exact Nat.le_of_lt (small1000 (by show 1 + i ≤ 1000; omega))
          have sW2 := same_new (o := .lst ([V.int (0 + (j : Int))] ++ r.map V.int)) hW2
          have s56 := sW1.trans sW2
          have eC6 := s56 _ _ eC
          have eN6 := s56 _ _ (s5 _ _ eN)
          have nW2N : W2 ≠ N := fun z => by
            have z2 := sW1 _ _ (s5 _ _ eN)
            rw [z] at hW2
            rw [hW2] at z2
            cases z2
          have nW2C : W2 ≠ C := fun z => by
            have z2 := sW1 _ _ eC
            rw [z] at hW2
            rw [hW2] at z2
            cases z2
          refine ⟨_, eC6, ?_, cs ++ [W2], ?_, ?_, ?_, ?_, ?_⟩
          · rw [List.length_map, sizeLine_eq]
            omega
          · rw [upd_same, List.map_append]
            rfl
          · rw [List.take_add_one, hr1, List.map_append]
            refine awSnoc (F := fun a (xs : List Int) => upd (upd (upd H5 W1 (.lst [.int (0 + (j : Int))])) W2 (.lst ([V.int (0 + (j : Int))] ++ r.map V.int))) C (.lst (cs.map V.ref ++ [.ref W2])) a = some (.lst (xs.map V.int))) ?_ (lsat_but (fun b o nb e => by rw [upd_ne nb]; exact s56 _ _ e) ncc hcs)
            rw [upd_ne nW2C, upd_same]
            show some (HO.lst (V.int (0 + (j : Int)) :: r.map V.int)) = some (HO.lst (V.int (j : Int) :: r.map V.int))
            rw [Int.zero_add]
          · intro b hb
            rcases List.mem_append.mp hb with hb | hb
            · exact ncs b hb
            · rw [List.mem_singleton.mp hb]
              exact nW2N
          · intro b hb
            rcases List.mem_append.mp hb with hb | hb
            · exact ncc b hb
            · rw [List.mem_singleton.mp hb]
              exact nW2C
          · intro b o e
            rw [upd_ne (ne_of_none e hC)]
            exact s56 _ _ (s5 _ _ e)
        · obtain ⟨cs, eC, hcs, ncs, ncc, s5⟩ := h5
          rw [List.length_map, la, ← allW_len t i, List.take_length] at hcs
          have lb := awLen hbs
          have lc := awLen hcs
          rw [List.length_map, allW_len] at lc
          have lbb : bs.length = j * t ^ i := by
            have e1 : ∀ n : Nat, ((List.range n).flatMap fun (x : Nat) => (allW t i).map fun r => (x : Int) :: r).length = n * t ^ i := fun n => by
              induction n with
              | zero => simp
              | succ n ih =>
                rw [List.range_succ, List.flatMap_append, List.length_append, ih]
                simp only [List.flatMap_cons, List.flatMap_nil, List.append_nil, List.length_map, allW_len]
                rw [Nat.add_mul, Nat.one_mul]
            rw [lb, e1]
          have hle : (j + 1) * t ^ i ≤ t ^ (i + 1) := by
            rw [Nat.pow_succ, Nat.mul_comm]
            exact Nat.mul_le_mul_left _ (by omega)
          rw [Nat.add_mul, Nat.one_mul] at hle
          have eN5 := s5 _ _ eN
          refine ⟨N, C, _, _, rfl, rfl, eN5, eC, ?_, some (.int (0 + (j : Int))), bs ++ cs, rfl, ?_, ?_, ?_, ?_⟩
          · rw [List.length_map, List.length_map, sizeLine_eq]
            omega
          · rw [upd_same, List.map_append]
          · rw [List.range_succ, List.flatMap_append]
            have e2 : ([j].flatMap fun (x : Nat) => (allW t i).map fun r => (x : Int) :: r) = (allW t i).map fun r => ((j : Nat) : Int) :: r := by simp
            rw [e2]
            exact awAppend (lsat_but (fun b o nb e => by rw [upd_ne nb]; exact e) nbs (lsat_same s5 hbs)) (lsat_but (fun b o nb e => by rw [upd_ne nb]; exact e) ncs hcs)
          · intro b hb
            rcases List.mem_append.mp hb with hb | hb
            · exact nbs b hb
            · exact ncs b hb
          · intro b o e
            have nb : b ≠ N := ne_of_none e hN
            rw [upd_ne nb]
            exact s5 _ _ (s4 _ _ e)
      · obtain ⟨y5, bs, rfl, eN, hbs, nbs, s4⟩ := h4
        rw [Int.toNat_natCast] at hbs
        exact ⟨.ref N, rfl, _, _, _, N, bs, rfl, eN, hbs, s3.trans s4, hN0⟩
    · obtain ⟨y3, y4, y5, L, as, rfl, eL, has, s3, hL0⟩ := h3
      rw [Int.toNat_natCast] at has
      exact ⟨.ref L, rfl, q H3 L as s3 hL0 eL has⟩
/-! ### long rows -/
def spLong : Sp := fun vs H Q _ => ∃ (a c : Addr) (m : Int), vs = [.ref a, .int m] ∧ 1 ≤ m ∧ m ≤ 3 ∧ WL H a c ∧
  ∀ H' R ds o, RowAt H' R m ds o → RowOk m ds o → WL H' a c → Kp a c H H' → Q (.ref R) H'
theorem ok_long {f fD fE : Addr} {fd fdD fdE : FuncData} {k : Nat} (F : Fun K "_law_long_row" "_law_long_row" s_law_long_row f fd) (GD : FnOk P w K mg base CX0 (k + 1) fD fdD ["well", "many"] spDraw) (kD : PySem.W.keepIn K (.ref fD) = true)
    (GE : FnOk P w K mg base CX0 (k + 2) fE fdE ["well", "ahead"] spDeed) (kE : PySem.W.keepIn K (.ref fE) = true)
    (bD : Binds K fdD ["well", "many"] []) (bE : Binds K fdE ["well", "ahead"] []) (gD : mg "_law_draw" = some (.ref fD)) (gE : mg "_law_deed" = some (.ref fE)) (mt : mg "tuple" = none) (mr : mg "range" = none) :
    FnOk P w K mg base CX0 (k + 3) f fd ["well", "many"] spLong := by
  refine F.ok sc_law_long_row (fun vs H Q E h => ?_) (fun cdv A outer s H vs Q E hr h => ?_)
  · obtain ⟨a, c, m, rfl, _⟩ := h
    rfl
  · obtain ⟨a, c, m, rfl, hm, hm2, hw, q⟩ := h
    have hr1 := hr.mono (show k + 1 ≤ k + 2 by omega)
    refine ⟨_, pss_cons (ps_set (i := 2) sc_law_long_row.nd rfl (.inl rfl) (pe_op op_add pe_int (pe_call GD hr1 (by rfl) gD kD bD .nil pass0 (pa_cons (pv 0) (pa_cons pe_int pa_nil)))))
      (pss_cons (ps_set (i := 3) sc_law_long_row.nd rfl (.inl rfl) (pe_cmpR op_gt (pe_call GD hr1 (by rfl) gD kD bD .nil pass0 (pa_cons (pv 0) (pa_cons pe_int pa_nil))) pe_int (nomark _)))
      (pss_cons (ps_set (i := 4) sc_law_long_row.nd rfl (.inl rfl) (pe_lst pa_nil))
      (pss_cons (ps_for PassesOwn.never rfl (pi_range1 (by rfl) mr (pa_cons (pv 2) pa_nil)) (pg_name (i := 5) sc_law_long_row.nd rfl (.inl rfl))
        (pss_one (ps_expr (pe_bm PySem.F.plainAttrs_list PySem.F.slot_list_append PySem.F.type_list_append mt_append (pv 4) (pa_cons (pe_call GE hr (by rfl) gE kE bE .nil pass0 (pa_cons (pv 0) (pa_cons (pe_op op_add (pv 1) (pv 5)) pa_nil))) pa_nil)))))
      (pss_cons (ps_set (i := 6) sc_law_long_row.nd rfl (.inl rfl) (pe_op op_sub (pe_op op_add (pv 1) (pv 2)) pe_int))
      (pss_mid (ps_if (pt_not (pt_val (pv 3))) (pss_one (ps_set (i := 6) sc_law_long_row.nd rfl (.inl rfl) (pe_call GD hr1 (by rfl) gD kD bD .nil pass0 (pa_cons (pv 0) (pa_cons (pe_op op_add (pv 1) (pv 2)) pa_nil))))) pss_nil)
      (pss_one (ps_ret (pe_tup (pa_cons (pv 1) (pa_cons (pe_callTy call_tuple_of (by rfl) mt (by decide +kernel) (pa_cons (pv 4) pa_nil)) (pa_cons (pv 6) pa_nil))))))))))), ?_⟩
    refine ⟨.ref a, rfl, a, c, 3, rfl, by decide, by decide, hw, fun H1 sz' z0' z1' w1 k1 => ⟨6, sz', rfl, rfl, ?_⟩⟩
    obtain ⟨sz, hsz⟩ : ∃ sz, sz = 6 + sz' := ⟨_, rfl⟩
    show gName 2 (.int (6 + sz')) _ _ _
    rw [← hsz]
    refine ⟨.ref a, rfl, a, c, 4, rfl, by decide, by decide, w1, fun H2 la l0 l1 w2 k2 => ?_⟩
    refine ⟨la, 0, rfl, rfl, Nat.zero_le _, fun D hD => ?_⟩
    obtain ⟨nDa, nDc⟩ := w2.ne_new hD
    have kH : Kp a c H H2 := k1.trans k2
    refine ⟨.int sz, rfl, sz, rfl, by omega, by omega, for_range (lo := 0) (n := sz.toNat) (fun i σ H3 => ∃ y rs ds, σ = [some (.ref a), some (.int m), some (.int sz), some (.bl (decide (la > 0))), some (.ref D), y, none] ∧ H3 D = some (.lst (rs.map V.ref)) ∧ DsAt H3 rs ds ∧ ds.length = i ∧ DsOk m ds ∧ WL H3 a c ∧ Kp a c H H3)
      ⟨none, [], [], rfl, upd_same, .nil, rfl, ⟨fun k d e => by simp at e⟩, w2.upd nDa nDc, kH.trans (Same.kp (same_new hD))⟩ (fun i σ H3 hi hp => ?_) (fun σ H3 hp => ?_)⟩
    · obtain ⟨y, rs, ds, rfl, eD, hd, hl, ok, w3, k3⟩ := hp
      refine ⟨.ref D, rfl, .inl ⟨rfl, _, .inl (.inl eD)⟩, .ref a, rfl, .int m, rfl, .int (0 + i), rfl, m, 0 + i, rfl, rfl, a, c, _, rfl, by omega, by omega, w3, fun H4 r d hok er w4 k4 => ?_⟩
      have eD4 := k4 _ _ nDa nDc eD
      refine ⟨D, _, _, rfl, rfl, eD4, ?_, some (.int (0 + i)), rs ++ [r], ds ++ [d], rfl, ?_, ?_, ?_, ?_, w4.upd nDa nDc, ?_⟩
      · rw [List.length_map, awLen hd]
        exact small1000 (by omega)
      · rw [upd_same, List.map_append]
        rfl
      · exact (tups_put eD4).ds (awSnoc (F := fun r d => H4 r = some (.tup (dV d))) er ((k4.tups w3).ds hd))
      · rw [List.length_append, hl]
        rfl
      · refine dsOk_snoc ok ?_
        rw [hl]
        have : m + (0 + (i : Int)) = m + i := by omega
        rw [this] at hok
        exact hok
      · intro b o n1 n2 e
        have nbD : b ≠ D := by
          intro z
          have z1 := kH b o n1 n2 e
          rw [z, hD] at z1
          cases z1
        rw [upd_ne nbD]
        exact k4 b o n1 n2 (k3 b o n1 n2 e)
    · obtain ⟨y, rs, ds, rfl, eD, hd, hl, ok, w3, k3⟩ := hp
      refine ⟨.int m, rfl, .int sz, rfl, m, sz, rfl, rfl, _, 1, rfl, rfl, ?_⟩
      refine ⟨fun σ4 H4 => ∃ o, σ4 = [some (.ref a), some (.int m), some (.int sz), some (.bl (decide (la > 0))), some (.ref D), y, some (.int o)] ∧ 0 ≤ o ∧ o < m + sz ∧ H4 D = some (.lst (rs.map V.ref)) ∧ DsAt H4 rs ds ∧ WL H4 a c ∧ Kp a c H H4, ?_, ?_⟩
      · refine ⟨_, rfl, _, rfl, ?_⟩
        by_cases hla : la > 0
        · rw [decide_eq_true hla]
          exact ⟨m + sz - 1, rfl, by omega, by omega, eD, hd, w3, k3⟩
        · rw [decide_eq_false hla]
          refine ⟨.ref a, rfl, .int m, rfl, .int sz, rfl, m, sz, rfl, rfl, a, c, _, rfl, by omega, by omega, w3, fun H4 o o0 o1 w4 k4 => ?_⟩
          exact ⟨o, rfl, o0, o1, k4 _ _ nDa nDc eD, (k4.tups w3).ds hd, w4, k3.trans k4⟩
      · rintro σ4 H4 ⟨o, rfl, o0, o1, eD4, hd4, w4, k4⟩
        refine ⟨.int m, rfl, .ref D, rfl, D, _, rfl, .inl ⟨.inl (.inl eD4), fun T hT => ?_⟩⟩
        refine ⟨.int o, rfl, by show 3 ≤ sizeLine; decide, fun R hR => ?_⟩
        have s1 : Same H4 (upd H4 T (.tup (rs.map V.ref))) := same_new hT
        have s2 := same_new (o := .tup [.int m, .ref T, .int o]) hR
        obtain ⟨n1, n2⟩ := w4.ne_new hT
        have w5 := w4.upd (o := .tup (rs.map V.ref)) n1 n2
        obtain ⟨n3, n4⟩ := w5.ne_new hR
        refine q _ R ds o ⟨T, rs, upd_same, s2 _ _ upd_same, (Same.tups (s1.trans s2)).ds hd4⟩ ⟨hm, hm2, by omega, ok, o0, by omega⟩ (w5.upd n3 n4) (k4.trans (Same.kp (s1.trans s2)))
/-! ### carries as keys -/
def kC (c : List Int) : NestedKey := .tup (c.map .num)
theorem nums_inj : ∀ {a b : List Int}, a.map NestedKey.num = b.map NestedKey.num → a = b
  | [], [], _ => rfl
  | [], _ :: _, h => nomatch h
  | _ :: _, [], h => nomatch h
  | x :: a, y :: b, h => by
    rw [List.map_cons, List.map_cons, List.cons.injEq] at h
    rw [NestedKey.num.inj h.1, nums_inj h.2]
theorem kC_inj {a b : List Int} (h : kC a = kC b) : a = b := nums_inj (NestedKey.tup.inj h)
theorem nums_depth : ∀ c : List Int, NestedKey.depthAll (c.map .num) = 0
  | [] => by simp [NestedKey.depthAll]
  | x :: c => by simp [NestedKey.depthAll, NestedKey.depth, nums_depth c]
theorem kC_depth (c : List Int) : (kC c).depth ≤ 8 := by
  unfold kC
  simp [NestedKey.depth, nums_depth c]
theorem nks_ints (H : Hp) : ∀ c : List Int, NkAll H (c.map .num) (c.map V.int)
  | [] => .nil
  | x :: c => .cons (.num x) (nks_ints H c)
theorem nks_eq {H : Hp} : ∀ {c : List Int} {xs : List V}, NkAll H (c.map .num) xs → xs = c.map V.int
  | [], _, h => by
    cases h
    rfl
  | x :: c, _, h => by
    cases h with
    | cons h1 h2 =>
      cases h1
      rw [nks_eq h2]
      rfl
theorem keyC {H : Hp} {b : Addr} {c : List Int} (h : H b = some (.tup (c.map V.int))) : KeyN H (.ref b) (kC c) := ⟨.tup h (nks_ints H c), kC_depth c, b, rfl⟩
theorem cutTake {xs : List V} {k : Nat} (h : k ≤ xs.length) : cutV xs none (some (k : Int)) = xs.take k := by
  have h1 : HT.sIx xs.length 0 none = 0 := HT.sIx_none _ _
  have h2 : HT.sIx xs.length xs.length (some (k : Int)) = min k xs.length := HT.sIx_nat _ _ k
  unfold cutV
  rw [h1, h2, Nat.min_eq_left h, Nat.sub_zero]
  rfl
/-! ### numbers changed -/
def renD (nu : List Int) (d : Deed) : Deed := (d.1, d.2.map fun z => nu.getD z.toNat 0)
theorem fw_len {m : Int} {d : Deed} (h : DeedOk m d) : d.2.length ≤ 2 := by
  have := (fw_short _ h.word).2.2
  have e2 : (d.2.length : Int) ≤ 2 := this
  omega
theorem ren_ok {nu : List Int} {d : Deed} {m : Int} (h : DeedOk nu.length d) (hn : ∀ x ∈ nu, 0 ≤ x ∧ x < m) : DeedOk m (renD nu d) := by
  refine ⟨?_, ?_⟩
  · show (d.1, ((d.2.map _).length : Int)) ∈ fwL
    rw [List.length_map]
    exact h.word
  · intro i hi
    obtain ⟨z, hz, rfl⟩ := List.mem_map.mp hi
    obtain ⟨z0, z1⟩ := h.ahead z hz
    have hk : z.toNat < nu.length := by omega
    rw [List.getD_eq_getElem?_getD, List.getElem?_eq_getElem hk]
    exact hn _ (List.getElem_mem hk)
/-! ### enumerate of a tuple -/
section enumt
set_option maxHeartbeats 1000000 in
theorem meets_enum1 {v : Value} {o : Obj} {H : Heap → Prop} (B : Begins v o H) :
    Meets (Builtin.«enumerate.__new__» ⟨[.type "enumerate", v], []⟩) (fun _ R s => H s.heap ∧
      R (.ok (.ret (.ref (s.heap.push o).objs.size))) { s with heap := (s.heap.push o).push { cls := .type "enumerate", data := .fields #[.none, .bool false, .ref s.heap.objs.size, rawInt 0, .none, .none] } }) :=
  .of_wp fun prog w A R s h => by
    obtain ⟨hp, g, d, tk, os⟩ := s; obtain ⟨h1, h⟩ := h
    have hsub := sub_enumerate
    have q1 : ∀ {A' : Around} {E : Value → Shared → Prop} {Q : Value → Shared → Prop}, Q (.ref hp.objs.size) ⟨hp.push o, g, d, tk, os⟩ → wpAny (model prog w) A' (pyIter v) Q E ⟨hp, g, d, tk, os⟩ :=
      fun q => B.iter prog w _ _ ⟨hp, g, d, tk, os⟩ _ h1 q
    wp_walk using q1
    refine wpAny_stack_any fun st => wpAny_pure ?_
    split
    · rename_i c _ _ _ _ _
      cases (c == Value.type "enumerate")
      · wp_walk using q1
        exact ⟨_, rfl, h⟩
      · wp_walk using q1
        exact ⟨_, rfl, h⟩
    · wp_walk using q1
      exact ⟨_, rfl, h⟩
theorem enum1 {prog : Program} {w : World} {A : Around} {E : Value → Shared → Prop} {s : Shared} {v : Value} {o : Obj} {H : Heap → Prop} {Q : Value → Shared → Prop} (B : Begins v o H) (h1 : H s.heap)
    (h : ∀ h', IsEnum h' (s.heap.objs.size + 1) s.heap.objs.size 0 .none → h'.get? s.heap.objs.size = some o → h'.objs.size = s.heap.objs.size + 2 →
      (∀ b o, s.heap.get? b = some o → h'.get? b = some o) → Q (.ref (s.heap.objs.size + 1)) { s with heap := h' }) :
    wpAny (model prog w) A (call (.type "enumerate") [v]) Q E s := by
  refine callType_new F.called_enumerate (by decide) (F.typeCall_enumerate_1 _) (F.newCall_enumerate_1 _) (fun obj => F.args_object_init_2 obj _) F.entry_enumerate_new
    (meets_enum1 B) ⟨h1, ?_⟩
  have hz : (s.heap.push o).objs.size = s.heap.objs.size + 1 := Heap.size_push ..
  show _ ∧ _
  rw [hz]
  have he : IsEnum ((s.heap.push o).push { cls := .type "enumerate", data := .fields #[.none, .bool false, .ref s.heap.objs.size, rawInt 0, .none, .none] }) (s.heap.objs.size + 1) s.heap.objs.size 0 .none := by
    have := Heap.get?_push_size (s.heap.push o) (o := { cls := .type "enumerate", data := .fields #[.none, .bool false, .ref s.heap.objs.size, rawInt 0, .none, .none] }) rfl
    rw [hz] at this; exact this
  refine ⟨⟨_, he, rfl⟩, h _ he (Heap.get?_push_of_some _ (Heap.get?_push_size _ B.free)) (by rw [Heap.size_push, hz]) fun b o x => Heap.get?_push_of_some _ (Heap.get?_push_of_some _ x)⟩
def IteT (K : PySem.W.Frag) (a : Addr) : It :=
  ⟨fun i H => ∃ (xs : List V) (x : V), SqT K H a xs ∧ xs[i]? = some x, fun i H v H' => ∃ T x, v = .ref T ∧ H T = none ∧ H' = upd H T (.tup [.int (i : Nat), x]) ∧ ∀ xs, SqT K H a xs → xs[i]? = some x, fun i H => ∃ xs : List V, SqT K H a xs ∧ xs.length = i⟩
theorem turn_enumT {elts : List Expr} {kk : Nat} {tpos : Pos} (a e it : Addr) (na : a ≠ it) (ne : e ≠ a) :
    Turn P w K (.Tuple elts kk tpos) (IteT K a) [e, it] e (fun i h => (∃ old, IsEnum h e it ((i : Nat) : Int) old) ∧ h.IsTupleIter it a i ∧ e ≠ it) where
  mem := by simp
  obj := fun i h st b hb => by
    obtain ⟨⟨old, he⟩, ⟨o, ho, hc, hd⟩, _⟩ := st
    have e' : b = e ∨ b = it := by simpa using hb
    rcases e' with z | z
    · rw [z]; exact ⟨_, he, fun v q => nomatch q⟩
    · rw [z]; exact ⟨o, ho, fun v q => by rw [hd] at q; cases q⟩
  keep := fun i h h' st k => let ⟨⟨old, he⟩, hi, hne⟩ := st; ⟨⟨old, k e (by simp) _ he⟩, hi.at fun o q => k it (by simp) o q, hne⟩
  item := by
    intro X hP hw hK hc i pins s σ H E I hf st hg
    subst hP hw hK
    obtain ⟨⟨old, he⟩, hit, hne⟩ := st
    obtain ⟨xs, x, hq, hx⟩ := hg
    obtain ⟨its, rv, p, hz⟩ := I.tuple hq
    obtain ⟨u, hu, ru⟩ := rv.get hx
    have hel : e < s.heap.objs.size := Heap.lt_size he
    have hil : it < s.heap.objs.size := by obtain ⟨_, q, _⟩ := hit; exact Heap.lt_size q
    have hh : X.A.in1.handled = none := I.ok.hd hc
    have l1 : i < its.toArray.size := by
      have := (List.getElem?_eq_some_iff.mp hu).1
      simpa using this
    refine wpAny_pyNext_enum_itemD (Draws.tuple hh it a na its.toArray) he ⟨hit, p⟩ l1 hne (by simp [hne, ne]) fun v h' tk g ho hit' hT hsz hk => ?_
    have ev : v = u := by
      have g1' : its.toArray[i]? = some v := g
      have e : its[i]? = some v := by simpa using g1'
      rw [hu] at e
      exact (Option.some.inj e).symm
    subst ev
    refine ⟨_, rfl, wpAny_letOwnedTupleGo_enum (s := { s with heap := h', toks := tk + 1 }) ho fun h'' he' sb => ?_⟩
    have hT2 : h''.get? s.heap.objs.size = some { cls := .type "tuple", data := .seq #[.int i tk, v] } := (sb.2 _ (Nat.ne_of_gt hel)).trans hT
    have new : ObjOk X.prog X.w (upd H s.heap.objs.size (.tup [.int (i : Nat), x])) h'' s.heap.objs.size (.tup [.int (i : Nat), x]) :=
      ⟨by show 2 ≤ sizeLine; decide, [.int i tk, v], .cons ⟨_, rfl⟩ (.cons ru .nil), ⟨_, hT2, rfl, _, rfl⟩⟩
    have I1 : Inv X pins σ (upd H s.heap.objs.size (.tup [.int (i : Nat), x])) { s with heap := h'', toks := tk + 1 } :=
      I.turnedNew (ch := [e, it]) (fun b ob hb q => (sb.2 b (fun z => hb (by simp [z]))).trans (hk b ob (fun z => hb (by simp [z])) (fun z => hb (by simp [z])) q)) hf (Nat.le_refl _) new
    refine ⟨.ref s.heap.objs.size, _, I1, rfl, ⟨_, x, rfl, I.hok.fresh (Nat.le_refl _), rfl, fun ys hy => by rw [I.tuple_inj hy hq]; exact hx⟩, ⟨⟨v, ?_⟩, hit'.1.at fun o q => (sb.2 it (Ne.symm hne)).trans q, hne⟩, fun b hb => ?_⟩
    · have e1 : ((i + 1 : Nat) : Int) = (i : Int) + 1 := by omega
      rw [e1]; exact he'
    · have hb' : b < s.heap.objs.size := by
        have e' : b = e ∨ b = it := by simpa using hb
        rcases e' with z | z
        · rw [z]; exact hel
        · rw [z]; exact hil
      rw [upd_ne (Nat.ne_of_lt hb')]
      exact (hf b hb).1
  done := by
    intro X hP hw hK hc i pins s σ H E I hf st hg
    subst hP hw hK
    obtain ⟨⟨old, he⟩, hit, hne⟩ := st
    obtain ⟨xs, hq, hx⟩ := hg
    obtain ⟨its, rv, p, hz⟩ := I.tuple hq
    obtain ⟨f0, f1, f2, f3, f4, f5⟩ := hf it (by simp)
    have hl := rv.length
    have hh : X.A.in1.handled = none := I.ok.hd hc
    have ei : i = its.toArray.size := by rw [List.size_toArray]; omega
    exact wpAny_pyNext_enum_endD (Draws.tuple hh it a na its.toArray) he ⟨by rw [← ei]; exact hit, p⟩ fun h' eb => ⟨rfl, I.turned (t' := s.toks) (fun b o hb q => eb b o hb q) f0 f1 f3 f4 f5⟩
  self := fun A i s Q E st h => let ⟨⟨_, he⟩, _⟩ := st; wpAny_pyIter_enum he h
def iEnumT (K : PySem.W.Frag) (ta : TA) : TI := fun σ H R => ta σ H fun vs H1 => ∃ a xs, vs = [.ref a] ∧ SqT K H1 a xs ∧ R (IteT K a) H1
theorem pi_enumT {X : Cx} {e : Expr} {ta : TA} {p pos tpos : Pos} {elts : List Expr} {kk : Nat} (hg : Gl X "enumerate") (hm : X.mg "enumerate" = none) (ha : PA X [e] ta) (hs : starEach [e] X.env = [(false, eval e X.env)] := by rfl) :
    PI X (.Tuple elts kk tpos) (.Call (.Name "enumerate" p) [e] [] pos) (iEnumT X.K ta) := by
  refine ⟨fun pins s σ H R I h => ?_⟩
  refine Call_ (ld_blt I hg hm boot_enumerate (PyProof.Rows.callWith_type1 (thn (ha.run pos pins s σ H _ I h) fun us s1 ⟨vs, H1, I1, r1, q1⟩ => ?_) hs rfl))
  obtain ⟨a, xs, ex, hq, q⟩ := q1
  subst ex
  cases r1 with
  | cons r rr =>
    cases rr
    cases r
    obtain ⟨its, rv, p', hz⟩ := I1.tuple hq
    have lb : a < s1.heap.objs.size := by
      obtain ⟨o2, e2, _⟩ := id p'
      exact Heap.lt_size e2
    refine enum1 (begins_tuple a its.toArray) p' fun h' he hit hsz hk => wpAny_pyIter_enum he ?_
    have I2 : Inv X pins σ H1 { s1 with heap := h' } := I1.kept (t' := s1.toks) hk
    refine ⟨s1.heap.objs.size + 1, [s1.heap.objs.size + 1, s1.heap.objs.size], _, _, H1, rfl, I2, turn_enumT a (s1.heap.objs.size + 1) s1.heap.objs.size (Nat.ne_of_lt lb) (Nat.ne_of_gt (Nat.lt_succ_of_lt lb)), ⟨⟨.none, he⟩, ⟨_, hit, rfl, rfl⟩, Nat.succ_ne_self _⟩, fun b hb => ?_, q⟩
    have e' : b = s1.heap.objs.size + 1 ∨ b = s1.heap.objs.size := by simpa using hb
    have hle : s1.heap.objs.size ≤ b := by
      rcases e' with z | z
      · rw [z]; exact Nat.le_succ _
      · rw [z]; exact Nat.le_refl _
    exact I1.fpOk hle (I1.hok.fresh hle)
theorem walk_enumT {a : Addr} {xs : List V} : Walk (IteT K a) xs.length (fun H => SqT K H a xs) (YPair (fun i => some (.int (i : Nat))) (fun i => xs[i]?)) where
  goes := fun i H hi q => ⟨xs, xs[i], q, List.getElem?_eq_getElem hi⟩
  stops := fun H q => ⟨xs, q, rfl⟩
  yields := fun i H v H2 hi q y => by
    obtain ⟨T, x, h1, h2, h3, h4⟩ := y
    exact ⟨T, .int (i : Nat), x, h1, h2, h3, rfl, h4 xs q⟩
end enumt
/-! ### the law's own steps: _law_step, _law_first, _law_choices -/
def g1 (x : Str) (a b c : Int) : Int := if x = "none" then 0 else if x = "one" then c else if x = "all" then 1 else if x = "not" then 1 - a else if x = "neg" then (1 - a + c) % 2 else if x = "twice" then c else a + b + c
def kv1 (a c : Int) : List (Key × V) := [(Sum.inr "none", .int 0), (Sum.inr "one", .int c), (Sum.inr "all", .int 1), (Sum.inr "not", .int (1 - a)), (Sum.inr "neg", .int ((1 - a + c) % 2)), (Sum.inr "twice", .int c)]
def n1 (a c : Int) : Int := if a = 0 ∧ c = 1 then 1 else 0
def n2 (a b c : Int) : Int := if a + b + c > 1 then 1 else 0
def n3 (a b c : Int) : Int := if 1 - a + b + c > 1 then 1 else 0
def gm (x : Str) (a b c : Int) : Int := if x = "neg" then n1 a c else if x = "twice" then a else if x = "add" then n2 a b c else if x = "sub" then n3 a b c else 0
def kv2 (a b : Int) : List (Key × V) := [(Sum.inr "and", .int (Builtin.bitAnd a b)), (Sum.inr "or", .int (Builtin.bitOr a b)), (Sum.inr "xor", .int (Builtin.bitXor a b))]
def kv3 (a b c : Int) : List (Key × V) := [(Sum.inr "neg", .int (n1 a c)), (Sum.inr "twice", .int a), (Sum.inr "add", .int (n2 a b c)), (Sum.inr "sub", .int (n3 a b c))]
theorem fw_all {x : Str} {n : Int} (h : (x, n) ∈ fwL) : (x = "none" ∧ n = 0) ∨ (x = "one" ∧ n = 0) ∨ (x = "all" ∧ n = 0) ∨ (x = "not" ∧ n = 1) ∨ (x = "neg" ∧ n = 1) ∨ (x = "twice" ∧ n = 1) ∨ (x = "and" ∧ n = 2) ∨ (x = "or" ∧ n = 2) ∨ (x = "xor" ∧ n = 2) ∨ (x = "add" ∧ n = 2) ∨ (x = "sub" ∧ n = 2) := by
  unfold fwL at h
  simpa only [List.mem_cons, Prod.mk.injEq, List.not_mem_nil, or_false] using h
theorem kv1_get {x : Str} {n : Int} (h : (x, n) ∈ fwL) (a b c : Int) : (valV (mergeK [] (kv1 a c)) (Sum.inr x)).getD (.int (a + b + c)) = .int (g1 x a b c) := by
  rcases fw_all h with ⟨rfl, _⟩ | ⟨rfl, _⟩ | ⟨rfl, _⟩ | ⟨rfl, _⟩ | ⟨rfl, _⟩ | ⟨rfl, _⟩ | ⟨rfl, _⟩ | ⟨rfl, _⟩ | ⟨rfl, _⟩ | ⟨rfl, _⟩ | ⟨rfl, _⟩ <;> rfl
theorem kv3_get {x : Str} {n : Int} (h : (x, n) ∈ fwL) (a b c : Int) : (valV (mergeK [] (kv3 a b c)) (Sum.inr x)).getD (.int 0) = .int (gm x a b c) := by
  rcases fw_all h with ⟨rfl, _⟩ | ⟨rfl, _⟩ | ⟨rfl, _⟩ | ⟨rfl, _⟩ | ⟨rfl, _⟩ | ⟨rfl, _⟩ | ⟨rfl, _⟩ | ⟨rfl, _⟩ | ⟨rfl, _⟩ | ⟨rfl, _⟩ | ⟨rfl, _⟩ <;> rfl
/-- the bit that comes at last -/
def gb (x : Str) (a b c : Int) : Int := if x = "and" then Builtin.bitAnd a b else if x = "or" then Builtin.bitOr a b else if x = "xor" then Builtin.bitXor a b else g1 x a b c % 2
structure Args2 (d : Deed) (told : List Int) (a b : Int) : Prop where
  ba : Bit a
  bb : Bit b
  cut : ((d.2.map fun (z : Int) => told.getD z.toNat 0) ++ [0, 0]).take 2 = [a, b]
  bit : ∀ c, Bit c → gb d.1 a b c = dbitAt d c told
  car : ∀ c, Bit c → gm d.1 a b c = dcarAt d c told
theorem getD_bit {told : List Int} (tb : ∀ x ∈ told, Bit x) (i : Nat) : Bit (told.getD i 0) := by
  rw [List.getD_eq_getElem?_getD]
  cases e : told[i]? with
  | none => exact bit0
  | some y => exact tb y (List.mem_of_getElem? e)
theorem args2_of {d : Deed} {told : List Int} (ok : DeedOk told.length d) (tb : ∀ x ∈ told, Bit x) : ∃ a b, Args2 d told a b := by
  obtain ⟨x, ns⟩ := d
  have hw := fw_all ok.word
  have z0 : ∀ {ns : List Int}, (ns.length : Int) = 0 → ns = [] := fun h => List.eq_nil_of_length_eq_zero (by omega)
  have z1 : ∀ {ns : List Int}, (ns.length : Int) = 1 → ∃ i, ns = [i] := fun h => List.length_eq_one_iff.mp (by omega)
  have z2 : ∀ {ns : List Int}, (ns.length : Int) = 2 → ∃ i j, ns = [i, j] := fun {ns} h => by
    match ns, (show ns.length = 2 by omega) with
    | [i, j], _ => exact ⟨i, j, rfl⟩
  dsimp only at hw
  have one : ∀ (x : Str) (i : Int), (∀ A Z : Int, Bit A → ∀ c, Bit c → gb x A 0 c = dbit x A Z c ∧ gm x A 0 c = dcar x A Z c) → ∃ a b, Args2 (x, [i]) told a b := fun x i h =>
    ⟨told.getD i.toNat 0, 0, getD_bit tb _, bit0, rfl, fun c hc => (h _ (argAt (x, [i]) told 1) (getD_bit tb _) c hc).1, fun c hc => (h _ (argAt (x, [i]) told 1) (getD_bit tb _) c hc).2⟩
  have nil : ∀ (x : Str), (∀ Y Z : Int, ∀ c, Bit c → gb x 0 0 c = dbit x Y Z c ∧ gm x 0 0 c = dcar x Y Z c) → ∃ a b, Args2 (x, []) told a b := fun x h =>
    ⟨0, 0, bit0, bit0, rfl, fun c hc => (h (argAt (x, []) told 0) (argAt (x, []) told 1) c hc).1, fun c hc => (h (argAt (x, []) told 0) (argAt (x, []) told 1) c hc).2⟩
  have two : ∀ (x : Str) (i j : Int), (∀ A B : Int, Bit A → Bit B → ∀ c, Bit c → gb x A B c = dbit x A B c ∧ gm x A B c = dcar x A B c) → ∃ a b, Args2 (x, [i, j]) told a b := fun x i j h =>
    ⟨told.getD i.toNat 0, told.getD j.toNat 0, getD_bit tb _, getD_bit tb _, rfl, fun c hc => (h _ _ (getD_bit tb _) (getD_bit tb _) c hc).1, fun c hc => (h _ _ (getD_bit tb _) (getD_bit tb _) c hc).2⟩
  rcases hw with ⟨rfl, h⟩ | ⟨rfl, h⟩ | ⟨rfl, h⟩ | ⟨rfl, h⟩ | ⟨rfl, h⟩ | ⟨rfl, h⟩ | ⟨rfl, h⟩ | ⟨rfl, h⟩ | ⟨rfl, h⟩ | ⟨rfl, h⟩ | ⟨rfl, h⟩
  · obtain rfl := z0 h
    exact nil _ fun Y Z c hc => by rcases hc with rfl | rfl <;> exact ⟨rfl, rfl⟩
  · obtain rfl := z0 h
    exact nil _ fun Y Z c hc => by rcases hc with rfl | rfl <;> exact ⟨rfl, rfl⟩
  · obtain rfl := z0 h
    exact nil _ fun Y Z c hc => by rcases hc with rfl | rfl <;> exact ⟨rfl, rfl⟩
  · obtain ⟨i, rfl⟩ := z1 h
    exact one _ i fun A Z hA c hc => by rcases hc with rfl | rfl <;> rcases hA with rfl | rfl <;> exact ⟨rfl, rfl⟩
  · obtain ⟨i, rfl⟩ := z1 h
    exact one _ i fun A Z hA c hc => by rcases hc with rfl | rfl <;> rcases hA with rfl | rfl <;> exact ⟨rfl, rfl⟩
  · obtain ⟨i, rfl⟩ := z1 h
    exact one _ i fun A Z hA c hc => by rcases hc with rfl | rfl <;> rcases hA with rfl | rfl <;> exact ⟨rfl, rfl⟩
  · obtain ⟨i, j, rfl⟩ := z2 h
    exact two _ i j fun A B hA hB c hc => by rcases hc with rfl | rfl <;> rcases hA with rfl | rfl <;> rcases hB with rfl | rfl <;> exact ⟨rfl, rfl⟩
  · obtain ⟨i, j, rfl⟩ := z2 h
    exact two _ i j fun A B hA hB c hc => by rcases hc with rfl | rfl <;> rcases hA with rfl | rfl <;> rcases hB with rfl | rfl <;> exact ⟨rfl, rfl⟩
  · obtain ⟨i, j, rfl⟩ := z2 h
    exact two _ i j fun A B hA hB c hc => by rcases hc with rfl | rfl <;> rcases hA with rfl | rfl <;> rcases hB with rfl | rfl <;> exact ⟨rfl, rfl⟩
  · obtain ⟨i, j, rfl⟩ := z2 h
    exact two _ i j fun A B hA hB c hc => by rcases hc with rfl | rfl <;> rcases hA with rfl | rfl <;> rcases hB with rfl | rfl <;> exact ⟨rfl, rfl⟩
  · obtain ⟨i, j, rfl⟩ := z2 h
    exact two _ i j fun A B hA hB c hc => by rcases hc with rfl | rfl <;> rcases hA with rfl | rfl <;> rcases hB with rfl | rfl <;> exact ⟨rfl, rfl⟩
theorem bts_pre : ∀ {ds : List Deed} {cs t : List Int}, (bts ds cs t).take t.length = t
  | [], cs, t => by cases cs <;> exact List.take_length
  | d :: ds, [], t => List.take_length
  | d :: ds, c :: cs, t => by
    have h := bts_pre (ds := ds) (cs := cs) (t := t ++ [dbitAt d c t])
    show (bts ds cs (t ++ [dbitAt d c t])).take t.length = t
    have h2 : ((bts ds cs (t ++ [dbitAt d c t])).take (t ++ [dbitAt d c t]).length).take t.length = t := by
      rw [h]
      exact List.take_left
    rw [List.take_take, List.length_append, Nat.min_eq_left (by omega)] at h2
    exact h2
theorem bts_app : ∀ {ds1 ds2 : List Deed} {cs1 cs2 t : List Int}, ds1.length = cs1.length → bts (ds1 ++ ds2) (cs1 ++ cs2) t = bts ds2 cs2 (bts ds1 cs1 t)
  | [], ds2, [], cs2, t, _ => by
    show bts ds2 cs2 t = bts ds2 cs2 (bts [] [] t)
    rfl
  | [], _, _ :: _, _, _, h => by simp at h
  | _ :: _, _, [], _, _, h => by simp at h
  | d :: ds1, ds2, c :: cs1, cs2, t, h => bts_app (ds1 := ds1) (ds2 := ds2) (cs1 := cs1) (cs2 := cs2) (t := t ++ [dbitAt d c t]) (by simpa using h)
theorem bts_at {ds : List Deed} {cs t : List Int} {i : Nat} (h : ds.length = cs.length) (hi : i ≤ ds.length) : bts (ds.take i) (cs.take i) t = (bts ds cs t).take (t.length + i) := by
  have l1 : (ds.take i).length = (cs.take i).length := by rw [List.length_take, List.length_take, h]
  have e : bts ds cs t = bts (ds.drop i) (cs.drop i) (bts (ds.take i) (cs.take i) t) := by rw [← bts_app l1, List.take_append_drop, List.take_append_drop]
  have l : (bts (ds.take i) (cs.take i) t).length = t.length + i := by rw [bts_len l1, List.length_take, Nat.min_eq_left hi]
  rw [e, ← l, bts_pre]
def spL1 : Sp := fun vs H Q _ => ∃ (R C B : Addr) (m : Nat) (o : Int) (ds : List Deed) (cs bs : List Int), vs = [.ref R, .ref C, .ref B] ∧ RowAt H R m ds o ∧ RowOk m ds o ∧ H C = some (.tup (cs.map V.int)) ∧ cs.length = ds.length ∧ H B = some (.tup (bs.map V.int)) ∧ bs.length = m ∧
  (∀ x ∈ cs, Bit x) ∧ (∀ x ∈ bs, Bit x) ∧ ∀ H' p A2 B2, Same H H' → H A2 = none → H' p = some (.tup [.ref A2, .ref B2]) → H' A2 = some (.lst ((bts ds cs bs).map V.int)) → H' B2 = some (.tup ((nc ds cs bs).map V.int)) → Q (.ref p) H'
set_option maxHeartbeats 2000000 in
theorem ok_l1 {f : Addr} {fd : FuncData} {k : Nat} (F : Fun K "_law_step" "_law_step" s_law_step f fd) (ml : mg "list" = none) (mt : mg "tuple" = none) (me : mg "enumerate" = none) (mi : mg "int" = none) : FnOk P w K mg base CX0 (k + 1) f fd ["row", "carry", "bits"] spL1 := by
  refine F.ok sc_law_step (fun vs H Q E h => ?_) (fun cdv A outer s H vs Q E hr h => ?_)
  · obtain ⟨R, C, B, m, o, ds, cs, bs, rfl, _⟩ := h
    rfl
  · obtain ⟨R, C, B, m, o, ds, cs, bs, rfl, hrow, hok, eC, hcl, eB, hm, cb, bb, q⟩ := h
    obtain ⟨D, rs, eR, eD, hd⟩ := id hrow
    have hu := hu_of hr
    refine ⟨_, pss_cons (ps_set (i := 3) sc_law_step.nd rfl (.inr rfl) (pe_callTy call_list_of (by rfl) ml (by decide +kernel) (pa_cons (pv 2) pa_nil)))
      (pss_cons (ps_set (i := 4) sc_law_step.nd rfl (.inl rfl) (pe_lst pa_nil))
      (pss_cons (ps_for PassesOwn.never rfl (pi_enumT (by rfl) me (pa_cons (pe_ix ix_tup (pv 0) pe_int (fun _ _ => rfl)) pa_nil)) (pg_tup rfl (pgs_cons (pg_name (i := 5) sc_law_step.nd rfl (.inl rfl)) (pgs_cons (pg_name (i := 6) sc_law_step.nd rfl (.inl rfl)) pgs_nil)))
        (pss_cons (ps_par (by rfl) sc_law_step.nd (i := 7) (j := 8) rfl rfl (by decide) rfl rfl (pa_cons (pe_ix ix_tup (pv 6) pe_int (fun _ _ => rfl)) (pa_cons (pe_ix ix_tup (pv 1) (pv 5) (fun _ _ => rfl)) pa_nil)) (by rfl))
        (pss_cons (ps_asg (pe_slice sl_list (pe_op op_cat (pe_lc (own := [("number", 13)]) (g := gName 13) (by rfl) sc_law_step.nd (pi_tup (pe_slice sl_tup (pv 6) (po_some pe_int) po_none)) (blkOk_by (own := [("number", 13)]) (N := N_law_step) (sc := defScope s_law_step) (by decide +kernel))
            (fun _ _ _ _ _ => pg_name (i := 13) sc_law_step.nd rfl (Or.inl rfl)) (fun _ _ _ _ _ => pts_nil) (fun _ _ _ _ _ => pe_ix (r := rIxL K) ix_list (pv 3) (pv 13) (fun _ _ => rfl))) (pe_lst (pa_cons pe_int (pa_cons pe_int pa_nil)))) po_none (po_some pe_int)) (pg_lst rfl (pgs_cons (pg_name (i := 9) sc_law_step.nd rfl (.inl rfl)) (pgs_cons (pg_name (i := 10) sc_law_step.nd rfl (.inl rfl)) pgs_nil))))
        (pss_cons (ps_set (i := 11) sc_law_step.nd rfl (.inl rfl) (pe_op op_mod (pe_dget2 hu (pe_disp (pps_cons pe_str pe_int (pps_cons pe_str (pv 8) (pps_cons pe_str pe_int (pps_cons pe_str (pe_op op_sub pe_int (pv 9)) (pps_cons pe_str (pe_op op_mod (pe_op op_add (pe_op op_sub pe_int (pv 9)) (pv 8)) pe_int) (pps_cons pe_str (pv 8) pps_nil)))))) (by rfl) (by rfl) (fun z => by cases z) (by decide)) (pv 7) (pe_op op_add (pe_op op_add (pv 9) (pv 10)) (pv 8)) ⟨rfl, rfl, rfl, rfl⟩) pe_int))
        (pss_mid (ps_if (pt_cmpR op_in_seq (pv 7) (pe_tup (pa_cons pe_str (pa_cons pe_str (pa_cons pe_str pa_nil)))) (by rfl)) (pss_one (ps_set (i := 11) sc_law_step.nd rfl (.inl rfl) (pe_dget hu (pe_disp (pps_cons pe_str (pe_op op_and (pv 9) (pv 10)) (pps_cons pe_str (pe_op op_or (pv 9) (pv 10)) (pps_cons pe_str (pe_op op_xor (pv 9) (pv 10)) pps_nil))) (by rfl) (by rfl) (fun z => by cases z) (by decide)) (pv 7) (fun _ _ => rfl)))) pss_nil)
        (pss_mid (ps_set (i := 12) sc_law_step.nd rfl (.inl rfl) (pe_disp (pps_cons pe_str (pe_callTy call_int1 (by rfl) mi (by decide +kernel) (pa_cons (pe_and (pe_cmpR op_eq (pv 9) pe_int (nomark _)) (pe_one (pe_cmpR op_eq (pv 8) pe_int (nomark _)))) pa_nil)) (pps_cons pe_str (pv 9) (pps_cons pe_str (pe_callTy call_int1 (by rfl) mi (by decide +kernel) (pa_cons (pe_cmpR op_gt (pe_op op_add (pe_op op_add (pv 9) (pv 10)) (pv 8)) pe_int (nomark _)) pa_nil)) (pps_cons pe_str (pe_callTy call_int1 (by rfl) mi (by decide +kernel) (pa_cons (pe_cmpR op_gt (pe_op op_add (pe_op op_add (pe_op op_sub pe_int (pv 9)) (pv 10)) (pv 8)) pe_int (nomark _)) pa_nil)) pps_nil)))) (by rfl) (by rfl) (fun z => by cases z) (by decide)))
        (pss_cons (ps_expr (pe_bm PySem.F.plainAttrs_list PySem.F.slot_list_append PySem.F.type_list_append mt_append (pv 3) (pa_cons (pv 11) pa_nil)))
        (pss_one (ps_expr (pe_bm PySem.F.plainAttrs_list PySem.F.slot_list_append PySem.F.type_list_append mt_append (pv 4) (pa_cons (pe_dget2 hu (pv 12) (pv 7) pe_int ⟨rfl, rfl, rfl, rfl⟩) pa_nil)))))))))))
      (pss_one (ps_ret (pe_tup (pa_cons (pv 3) (pa_cons (pe_callTy call_tuple_of (by rfl) mt (by decide +kernel) (pa_cons (pv 4) pa_nil)) pa_nil))))))), ?_⟩
    have l8 := hok.len
    have m3 := hok.m3
    have m1 := hok.m1
    refine ⟨.ref B, rfl, B, _, rfl, .inr (SqT.of eB), fun L hL => ?_⟩
    have sL := same_new (o := .lst (bs.map V.int)) hL
    refine ⟨Nat.zero_le _, fun G hG => ?_⟩
    have sG := same_new (o := .lst []) hG
    have nLG : L ≠ G := fun z => by rw [← z, upd_same] at hG; cases hG
    have nG : H G = none := sL.free hG
    have tl : (bts ds cs bs).length = bs.length + ds.length := bts_len hcl.symm
    have allbits : ∀ x ∈ bts ds cs bs, Bit x := bts_bits bb cb
    have sLG := sL.trans sG
    refine ⟨.ref R, rfl, R, _, 1, .ref D, rfl, rfl, SqT.of (sLG _ _ eR), rfl, D, _, rfl, SqT.of (sLG _ _ eD), for_it (walk_enumT (K := K) (a := D) (xs := rs.map V.ref)) (fun i σ H3 => ∃ y5 y6 y7 y8 y9 y10 y11 y12, σ = [some (.ref R), some (.ref C), some (.ref B), some (.ref L), some (.ref G), y5, y6, y7, y8, y9, y10, y11, y12, none] ∧ H3 L = some (.lst ((bts (ds.take i) (cs.take i) bs).map V.int)) ∧ H3 G = some (.lst (((nc ds cs bs).take i).map V.int)) ∧ Same H H3)
      ⟨none, none, none, none, none, none, none, none, rfl, ?_, upd_same, sLG⟩ (fun i σ H3 _ hp => ?_) (fun i x σ H3 H4 hi hp hy => ?_) (fun σ H3 hp => ?_)⟩
    · rw [upd_ne nLG, upd_same]
      cases ds <;> rfl
    · obtain ⟨_, _, _, _, _, _, _, _, _, _, _, sm⟩ := hp
      exact SqT.of (sm _ _ eD)
    · obtain ⟨y5, y6, y7, y8, y9, y10, y11, y12, rfl, e3, g3, sm⟩ := hp
      obtain ⟨T, x1, x2, rfl, hT, rfl, hx1, hx2⟩ := hy
      obtain rfl : V.int (i : Nat) = x1 := Option.some.inj hx1
      have hi2 : i < rs.length := by rwa [List.length_map] at hi
      have hx2' : x2 = .ref rs[i] := by
        have g2' : (rs.map V.ref)[i]? = some x2 := hx2
        rw [List.getElem?_map, List.getElem?_eq_getElem hi2] at g2'
        exact (Option.some.inj g2').symm
      subst hx2'
      obtain ⟨d, hd1, hd2⟩ := awGet hd (List.getElem?_eq_getElem hi2)
      obtain ⟨r, hr'⟩ : ∃ r, r = rs[i] := ⟨_, rfl⟩
      rw [← hr'] at hd2 ⊢
      have h2 : i < ds.length := by
        rw [← awLen hd]
        exact hi2
      obtain ⟨c, hc⟩ : ∃ c, cs[i]? = some c := ⟨_, List.getElem?_eq_getElem (by omega)⟩
      have hcb := cb c (List.mem_of_getElem? hc)
      have hlen : (bts (ds.take i) (cs.take i) bs).length = bs.length + i := by
        rw [bts_len (by rw [List.length_take, List.length_take, hcl]), List.length_take, Nat.min_eq_left (Nat.le_of_lt h2)]
      obtain ⟨told, htold⟩ : ∃ told, told = bts (ds.take i) (cs.take i) bs := ⟨_, rfl⟩
      have okd : DeedOk told.length d := by
        rw [htold, hlen]
        have := hok.deeds.each i d hd1
        rw [← hm] at this
        exact this
      have tb : ∀ x ∈ told, Bit x := by rw [htold]; exact bts_bits bb (fun x hx => cb x (List.mem_of_mem_take hx))
      have ecar : dcarAt d c (bts ds cs bs) = dcarAt d c told := by
        have e : told = (bts ds cs bs).take told.length := by
          rw [htold, bts_at hcl.symm (Nat.le_of_lt h2), List.length_take, tl, Nat.min_eq_left (by omega)]
        unfold dcarAt
        rw [e, arg_take okd (by rw [htold, hlen]; omega) (by rw [htold, hlen, tl]; omega), arg_take okd (by rw [htold, hlen]; omega) (by rw [htold, hlen, tl]; omega)]
      have e3t : H3 L = some (.lst (told.map V.int)) := by rw [htold]; exact e3
      obtain ⟨a, b, ar⟩ := args2_of okd tb
      have fwd := okd.word
      have d2 := fw_len okd
      have sT := same_new (o := .tup [.int (i : Nat), .ref r]) hT
      have er := sT _ _ (sm _ _ hd2)
      have hci : atI (cs.map V.int) ((i : Nat) : Int) = some (.int c) := atI_nat (by rw [List.getElem?_map, hc]; rfl)
      refine ⟨T, [.int (i : Nat), .ref r], rfl, .inl (.inl upd_same), rfl, .int (i : Nat), [.ref r], rfl, .ref r, [], rfl, rfl, ?_⟩
      refine ⟨.ref r, rfl, r, _, 0, .str d.1, rfl, rfl, SqT.of er, dv0 d, .ref C, rfl, .int (i : Nat), rfl, C, _, _, .int c, rfl, rfl, SqT.of (sT _ _ (sm _ _ eC)), hci, _, _, rfl, ?_⟩
      obtain ⟨H5, hH5⟩ : ∃ H5, H5 = upd H3 T (.tup [.int (i : Nat), .ref r]) := ⟨_, rfl⟩
      rw [← hH5] at er sT ⊢
      have s5 := sm.trans sT
      have eL5 := sT _ _ e3t
      have eG5 := sT _ _ g3
      clear hH5
      refine ⟨.ref r, rfl, 1, rfl, r, dV d, rfl, SqT.of er, notWhole _ _, fun T2 hT2 => ?_⟩
      have eT : cutV (dV d) (some 1) none = d.2.map V.int := cutTail _ _
      rw [eT]
      have sT2 := same_new (o := .tup (d.2.map V.int)) hT2
      obtain ⟨H6, hH6⟩ : ∃ H6, H6 = upd H5 T2 (.tup (d.2.map V.int)) := ⟨_, rfl⟩
      have eT6 : H6 T2 = some (.tup (d.2.map V.int)) := by rw [hH6]; exact upd_same
      rw [← hH6] at sT2 ⊢
      clear hH6
      refine ⟨T2, rfl, ⟨_, SqT.of eT6⟩, fun C2 hC2 => ?_⟩
      have sC2 : ∀ o, Same H6 (upd H6 C2 o) := fun o => same_new hC2
      refine lc_tup (K := K) (a := T2) (xs := d.2.map V.int) (fun j H7 => H7 = upd H6 C2 (.lst (((d.2.take j).map fun z => told.getD z.toNat 0).map V.int))) rfl (fun j H7 _ hp => ?_) (fun j x H7 hx hp => ?_) (fun H7 hp => ?_)
      · rw [hp]
        exact SqT.of (sC2 _ _ _ eT6)
      · obtain ⟨z, hz, rfl⟩ : ∃ z, d.2[j]? = some z ∧ x = .int z := by
          rw [List.getElem?_map] at hx
          cases e : d.2[j]? with
          | none => rw [e] at hx; cases hx
          | some z => rw [e] at hx; exact ⟨z, rfl, (Option.some.inj hx).symm⟩
        obtain ⟨z0, z1⟩ := okd.ahead z (List.mem_of_getElem? hz)
        subst hp
        refine ⟨rfl, .ref L, rfl, .int z, rfl, L, _, z, _, rfl, rfl, .inl (.inl (sC2 _ _ _ (sT2 _ _ eL5))), atI_ints z0 z1, _, upd_same, ?_, ?_⟩
        · rw [List.length_map, List.length_map, List.length_take]
          exact small1000 (by omega)
        · rw [upd_upd, List.take_add_one, hz]
          simp
      have eC2 : H7 C2 = some (.lst ((d.2.map fun z => told.getD z.toNat 0).map V.int)) := by
        rw [hp, upd_same, List.length_map, List.take_length]
      have s7 : Same H6 H7 := by rw [hp]; exact sC2 _
      refine ⟨(by show 2 ≤ sizeLine; decide), fun Z hZ => ?_⟩
      have sZ := same_new (o := .lst [.int 0, .int 0]) hZ
      refine ⟨C2, Z, _, _, rfl, rfl, sZ _ _ eC2, upd_same, ?_, fun U hU => ?_⟩
      · rw [List.length_map, List.length_map]
        exact Nat.le_of_lt (small1000 (by show _ + 2 ≤ 1000; omega))
      have sU := same_new (o := .lst ((d.2.map fun z => told.getD z.toNat 0).map V.int ++ [.int 0, .int 0])) hU
      refine ⟨2, rfl, U, _, rfl, .inl (.inl upd_same), fun Y hY => ?_⟩
      have eY : cutV ((d.2.map fun z => told.getD z.toNat 0).map V.int ++ [.int 0, .int 0]) none (some 2) = [.int a, .int b] := by
        have h := cutTake (xs := (d.2.map fun (z : Int) => told.getD z.toNat 0).map V.int ++ [.int 0, .int 0]) (k := 2) (by rw [List.length_append]; show 2 ≤ _ + 2; omega)
        have e2 : (d.2.map fun z => told.getD z.toNat 0).map V.int ++ [.int 0, .int 0] = ((d.2.map fun (z : Int) => told.getD z.toNat 0) ++ [0, 0]).map V.int := by
          rw [List.map_append]
          rfl
        refine h.trans ?_
        rw [e2, ← List.map_take, ar.cut]
        rfl
      rw [eY]
      have sY := same_new (o := .lst [.int a, .int b]) hY
      have s5Y := sT2.trans (s7.trans (sZ.trans (sU.trans sY)))
      obtain ⟨H8, hH8⟩ : ∃ H8, H8 = upd (upd (upd H7 Z (.lst [.int 0, .int 0])) U (.lst ((d.2.map fun z => told.getD z.toNat 0).map V.int ++ [.int 0, .int 0]))) Y (.lst [.int a, .int b]) := ⟨_, rfl⟩
      have eY8 : H8 Y = some (.lst [.int a, .int b]) := by rw [hH8]; exact upd_same
      rw [← hH8] at s5Y ⊢
      clear hH8
      refine ⟨Y, [.int a, .int b], rfl, .inl (.inl eY8), rfl, .int a, [.int b], rfl, .int b, [], rfl, rfl, ?_⟩
      have s8 := s5.trans s5Y
      have eL8 := s5Y _ _ eL5
      have eG8 := s5Y _ _ eG5
      intro p1 hp1
      have sp1 := fun o => same_new (o := o) hp1
      refine ⟨.int c, rfl, .int a, rfl, _, _, rfl, rfl, .int a, rfl, _, _, rfl, rfl, .int c, rfl, _, _, rfl, rfl, _, _, rfl, rfl, (by show (0 : Int) < 2; decide), .int c, rfl, upd_same, kv1 a c, rfl, (by show 6 ≤ 15; decide), p1, rfl, .inl ⟨_, .inl upd_same⟩, .str d.1, rfl, .int a, rfl, .int b, rfl, _, _, rfl, rfl, .int c, rfl, _, _, rfl, rfl, _, DGet.k (k := Sum.inr d.1) upd_same, ?_⟩
      rw [kv1_get fwd, upd_upd]
      refine ⟨_, 2, rfl, rfl, (by show (0 : Int) < 2; decide), ?_⟩
      have s9 := s8.trans (sp1 (.dK (mergeK [] (kv1 a c))))
      have eL9 := sp1 (.dK (mergeK [] (kv1 a c))) _ _ eL8
      have eG9 := sp1 (.dK (mergeK [] (kv1 a c))) _ _ eG8
      obtain ⟨H9, hH9⟩ : ∃ H9, H9 = upd H8 p1 (.dK (mergeK [] (kv1 a c))) := ⟨_, rfl⟩
      rw [← hH9] at s9 eL9 eG9 ⊢
      clear hH9
      refine ⟨fun σ' H' => σ' = [some (.ref R), some (.ref C), some (.ref B), some (.ref L), some (.ref G), some (.int (i : Nat)), some (.ref r), some (.str d.1), some (.int c), some (.int a), some (.int b), some (.int (dbitAt d c told)), y12, none] ∧ Same H9 H', ?_, ?_⟩
      · refine ⟨.str d.1, rfl, (by show 3 ≤ sizeLine; decide), fun T3 hT3 => ?_⟩
        have sT3 := same_new (o := .tup [.str "and", .str "or", .str "xor"]) hT3
        have hb := ar.bit c hcb
        obtain ⟨x, hxd⟩ : ∃ x, x = d.1 := ⟨_, rfl⟩
        rw [← hxd] at hb fwd ⊢
        obtain ⟨bt, hbt⟩ : ∃ bt, bt = dbitAt d c told := ⟨_, rfl⟩
        rw [← hbt] at hb ⊢
        subst hb
        rcases fw_all fwd with ⟨rfl, _⟩ | ⟨rfl, _⟩ | ⟨rfl, _⟩ | ⟨rfl, _⟩ | ⟨rfl, _⟩ | ⟨rfl, _⟩ | ⟨rfl, _⟩ | ⟨rfl, _⟩ | ⟨rfl, _⟩ | ⟨rfl, _⟩ | ⟨rfl, _⟩
        · exact ⟨T3, _, rfl, .inr (SqT.of upd_same), rfl, rfl, _, rfl, rfl, sT3⟩
        · exact ⟨T3, _, rfl, .inr (SqT.of upd_same), rfl, rfl, _, rfl, rfl, sT3⟩
        · exact ⟨T3, _, rfl, .inr (SqT.of upd_same), rfl, rfl, _, rfl, rfl, sT3⟩
        · exact ⟨T3, _, rfl, .inr (SqT.of upd_same), rfl, rfl, _, rfl, rfl, sT3⟩
        · exact ⟨T3, _, rfl, .inr (SqT.of upd_same), rfl, rfl, _, rfl, rfl, sT3⟩
        · exact ⟨T3, _, rfl, .inr (SqT.of upd_same), rfl, rfl, _, rfl, rfl, sT3⟩
        · refine ⟨T3, _, rfl, .inr (SqT.of upd_same), rfl, rfl, _, rfl, fun p2 hp2 => ?_⟩
          refine ⟨.int a, rfl, .int b, rfl, _, _, rfl, rfl, .int a, rfl, .int b, rfl, _, _, rfl, rfl, .int a, rfl, .int b, rfl, _, _, rfl, rfl, upd_same, kv2 a b, rfl, (by show 3 ≤ 15; decide), .str "and", rfl, p2, _, rfl, dget_at (k := Sum.inr "and") upd_same rfl, rfl, ?_⟩
          rw [upd_upd]
          exact sT3.trans (same_new hp2)
        · refine ⟨T3, _, rfl, .inr (SqT.of upd_same), rfl, rfl, _, rfl, fun p2 hp2 => ?_⟩
          refine ⟨.int a, rfl, .int b, rfl, _, _, rfl, rfl, .int a, rfl, .int b, rfl, _, _, rfl, rfl, .int a, rfl, .int b, rfl, _, _, rfl, rfl, upd_same, kv2 a b, rfl, (by show 3 ≤ 15; decide), .str "or", rfl, p2, _, rfl, dget_at (k := Sum.inr "or") upd_same rfl, rfl, ?_⟩
          rw [upd_upd]
          exact sT3.trans (same_new hp2)
        · refine ⟨T3, _, rfl, .inr (SqT.of upd_same), rfl, rfl, _, rfl, fun p2 hp2 => ?_⟩
          refine ⟨.int a, rfl, .int b, rfl, _, _, rfl, rfl, .int a, rfl, .int b, rfl, _, _, rfl, rfl, .int a, rfl, .int b, rfl, _, _, rfl, rfl, upd_same, kv2 a b, rfl, (by show 3 ≤ 15; decide), .str "xor", rfl, p2, _, rfl, dget_at (k := Sum.inr "xor") upd_same rfl, rfl, ?_⟩
          rw [upd_upd]
          exact sT3.trans (same_new hp2)
        · exact ⟨T3, _, rfl, .inr (SqT.of upd_same), rfl, rfl, _, rfl, rfl, sT3⟩
        · exact ⟨T3, _, rfl, .inr (SqT.of upd_same), rfl, rfl, _, rfl, rfl, sT3⟩
      · rintro σ' H10 ⟨rfl, s10⟩
        refine ⟨fun σ' H' => ∃ M, σ' = [some (.ref R), some (.ref C), some (.ref B), some (.ref L), some (.ref G), some (.int (i : Nat)), some (.ref r), some (.str d.1), some (.int c), some (.int a), some (.int b), some (.int (dbitAt d c told)), some (.ref M), none] ∧ Same H10 H' ∧ H' M = some (.dK (mergeK [] (kv3 a b c))), ?_, ?_⟩
        · intro M hM
          have hb := ar.bb
          have ha := ar.ba
          clear ar
          rcases ha with rfl | rfl
          · -- 0
            refine ⟨.int 0, rfl, rfl, _, rfl, .int c, rfl, rfl, .inr ⟨_, rfl, .int 0, rfl, .int 0, rfl, .int b, rfl, _, _, rfl, rfl, .int c, rfl, _, _, rfl, rfl, _, 1, rfl, rfl, .inr ⟨_, rfl, .int 0, rfl, _, _, rfl, rfl, .int b, rfl, _, _, rfl, rfl, .int c, rfl, _, _, rfl, rfl, _, 1, rfl, rfl, .inr ⟨_, rfl, upd_same, kv3 0 b c, ?_, (by show 4 ≤ 15; decide), M, rfl, by rw [upd_upd]; exact same_new hM, upd_same⟩⟩⟩⟩
            rcases hb with rfl | rfl <;> rcases hcb with rfl | rfl <;> rfl
          · -- 1
            refine ⟨.int 1, rfl, rfl, _, rfl, .inr ⟨_, rfl, .int 1, rfl, .int 1, rfl, .int b, rfl, _, _, rfl, rfl, .int c, rfl, _, _, rfl, rfl, _, 1, rfl, rfl, .inr ⟨_, rfl, .int 1, rfl, _, _, rfl, rfl, .int b, rfl, _, _, rfl, rfl, .int c, rfl, _, _, rfl, rfl, _, 1, rfl, rfl, .inr ⟨_, rfl, upd_same, kv3 1 b c, ?_, (by show 4 ≤ 15; decide), M, rfl, by rw [upd_upd]; exact same_new hM, upd_same⟩⟩⟩⟩
            rcases hb with rfl | rfl <;> rcases hcb with rfl | rfl <;> rfl
        · rintro σ' H11 ⟨M, rfl, s11, eM⟩
          have eL11 := s11 _ _ (s10 _ _ eL9)
          refine ⟨.ref L, rfl, .inl ⟨rfl, _, .inl (.inl eL11)⟩, .int _, rfl, L, _, _, rfl, rfl, eL11, ?_, ?_⟩
          · rw [List.length_map, htold, hlen]
            exact small1000 (by omega)
          have nML : M ≠ L := fun z => by rw [z, eL11] at eM; cases eM
          have nGL : G ≠ L := nLG.symm
          have eG12 : upd H11 L (.lst (told.map V.int ++ [.int (dbitAt d c told)])) G = some (.lst (((nc ds cs bs).take i).map V.int)) := by
            rw [upd_ne nGL]
            exact s11 _ _ (s10 _ _ eG9)
          have eM12 : upd H11 L (.lst (told.map V.int ++ [.int (dbitAt d c told)])) M = some (.dK (mergeK [] (kv3 a b c))) := by
            rw [upd_ne nML]
            exact eM
          refine ⟨.ref G, rfl, .inl ⟨rfl, _, .inl (.inl eG12)⟩, .ref M, rfl, M, rfl, .inl ⟨_, .inl eM12⟩, .str d.1, rfl, _, DGet.k (k := Sum.inr d.1) eM12, ?_⟩
          rw [kv3_get fwd, ar.car c hcb]
          refine ⟨G, _, _, rfl, rfl, eG12, ?_, _, _, _, _, _, _, _, _, rfl, ?_, ?_, ?_⟩
          · rw [List.length_map, List.length_take]
            exact small1000 (by omega)
          · rw [upd_ne nLG, upd_same, bts_next hd1 hc, List.map_append, htold]
            rfl
          · rw [upd_same]
            unfold nc
            rw [nxt_next hd1 hc, List.map_append, ecar]
            rfl
          · intro z u e
            have nzL : z ≠ L := ne_of_none e hL
            have nzG : z ≠ G := ne_of_none e nG
            rw [upd_ne nzG, upd_ne nzL]
            exact s11 _ _ (s10 _ _ (s9 _ _ e))
    · obtain ⟨y5, y6, y7, y8, y9, y10, y11, y12, rfl, e3, g3, sm⟩ := hp
      have lrs : (rs.map V.ref).length = ds.length := by rw [List.length_map, awLen hd]
      rw [lrs, List.take_length, ← hcl, List.take_length] at e3
      have nl : (nc ds cs bs).length = ds.length := nxt_len hcl.symm
      rw [lrs, ← nl, List.take_length] at g3
      refine ⟨.ref L, rfl, .ref G, rfl, G, _, rfl, .inl ⟨.inl (.inl g3), fun Z hZ => ?_⟩⟩
      have sZ := same_new (o := .tup ((nc ds cs bs).map V.int)) hZ
      refine ⟨(by show 2 ≤ sizeLine; decide), fun T hT => ?_⟩
      have sT := same_new (o := .tup [.ref L, .ref Z]) hT
      exact q _ T L Z (sm.trans (sZ.trans sT)) hL upd_same (sT _ _ (sZ _ _ e3)) (sT _ _ upd_same)
def spF1 : Sp := fun vs H Q _ => ∃ (R : Addr) (m o : Int) (ds : List Deed), vs = [.ref R] ∧ RowAt H R m ds o ∧ ds.length ≤ 100 ∧ ∀ H' C, Same H H' → H' C = some (.tup ((ds.map fcD).map V.int)) → Q (.ref C) H'
theorem ok_f1 {f : Addr} {fd : FuncData} {k : Nat} (F : Fun K "_law_first" "_law_first" s_law_first f fd) (mt : mg "tuple" = none) (mi : mg "int" = none) : FnOk P w K mg base CX0 (k + 1) f fd ["row"] spF1 := by
  refine F.ok sc_law_first (fun vs H Q E h => ?_) (fun cdv A outer s H vs Q E hr h => ?_)
  · obtain ⟨R, m, o, ds, rfl, _⟩ := h
    rfl
  · obtain ⟨R, m, o, ds, rfl, hrow, l8, q⟩ := h
    obtain ⟨D, rs, eR, eD, hd⟩ := id hrow
    refine ⟨_, pss_one (ps_ret (pe_callTy call_tuple_of (by rfl) mt (by decide +kernel) (pa_cons
      (pe_lc (own := [("deed", 1)]) (g := gName 1) (by rfl) sc_law_first.nd (pi_tup (pe_ix ix_tup (pv 0) pe_int (fun _ _ => rfl))) (blkOk_by (own := [("deed", 1)]) (N := N_law_first) (sc := defScope s_law_first) (by decide +kernel))
        (fun _ _ _ _ _ => pg_name (i := 1) sc_law_first.nd rfl (Or.inl rfl)) (fun _ _ _ _ _ => pts_nil)
        (fun _ _ _ _ _ => pe_callTy call_int1 (by rfl) mi (by decide +kernel) (pa_cons (pe_cmpR (r := rIn K false) op_in_seq (pe_ix (r := rIxT K) ix_tup (pv 1) pe_int (fun _ _ => rfl)) (pe_tup (pa_cons pe_str (pa_cons pe_str pa_nil))) (by rfl)) pa_nil))) pa_nil))), ?_⟩
    refine ⟨.ref R, rfl, R, _, 1, .ref D, rfl, rfl, SqT.of eR, rfl, D, rfl, ⟨_, SqT.of eD⟩, fun C hC => ?_⟩
    refine lc_tup (K := K) (a := D) (xs := rs.map V.ref) (fun j H4 => H4 C = some (.lst (((ds.take j).map fcD).map V.int)) ∧ Same H H4) ⟨upd_same, same_new hC⟩ (fun j H4 _ hp => SqT.of (hp.2 _ _ eD)) (fun j x H4 hx hp => ?_) (fun H4 hp => ?_)
    · obtain ⟨eC, s4⟩ := hp
      rw [List.getElem?_map] at hx
      obtain ⟨r, hr1, rfl⟩ := Option.map_eq_some_iff.mp hx
      obtain ⟨d, hd1, hd2⟩ := awGet hd hr1
      have er := s4 _ _ hd2
      refine ⟨rfl, .ref r, rfl, r, _, 0, .str d.1, rfl, rfl, SqT.of er, dv0 d, (by show 2 ≤ sizeLine; decide), fun T hT => ?_⟩
      have sT := same_new (o := .tup [.str "neg", .str "one"]) hT
      have hin := inS d.1 ["neg", "one"]
      have ev : (if inV (.str d.1) [V.str "neg", .str "one"] = true then (1 : Int) else 0) = fcD d := by
        have h2 : inV (.str d.1) [V.str "neg", .str "one"] = decide (d.1 ∈ (["neg", "one"] : List Str)) := hin
        rw [h2]
        unfold fcD
        by_cases h : d.1 ∈ (["neg", "one"] : List Str)
        · rw [decide_eq_true h, if_pos rfl, if_pos h]
        · rw [decide_eq_false h, if_neg (fun z => nomatch z), if_neg h]
      refine ⟨T, _, rfl, .inr (SqT.of upd_same), rfl, rfl, .inr ⟨_, rfl, ?_⟩⟩
      refine ⟨_, sT _ _ eC, ?_, ?_, ?_⟩
      · rw [List.length_map, List.length_map, List.length_take]
        exact small1000 (by omega)
      · rw [upd_same, List.take_add_one, hd1, List.map_append, List.map_append]
        show some (HO.lst (_ ++ [V.int (if inV (.str d.1) [V.str "neg", .str "one"] = true then (1 : Int) else 0)])) = _
        rw [ev]
        rfl
      · intro b u e
        rw [upd_ne (ne_of_none e hC)]
        exact sT _ _ (s4 _ _ e)
    · obtain ⟨eC, s4⟩ := hp
      rw [List.length_map, awLen hd, List.take_length] at eC
      refine ⟨C, _, rfl, .inl ⟨.inl (.inl eC), fun Z hZ => ?_⟩⟩
      exact q _ Z (s4.trans (same_new hZ)) upd_same
def chB : Nat → List (List Int)
  | 0 => [[]]
  | m + 1 => (chB m).map (0 :: ·) ++ (chB m).map (1 :: ·)
theorem chB_len : ∀ m, (chB m).length = 2 ^ m
  | 0 => rfl
  | m + 1 => by
    show ((chB m).map (0 :: ·) ++ (chB m).map (1 :: ·)).length = _
    rw [List.length_append, List.length_map, List.length_map, chB_len m, Nat.pow_succ]
    omega
theorem chB_elt : ∀ m, ∀ bs ∈ chB m, bs.length = m
  | 0, bs, h => by
    rw [List.mem_singleton.mp h]
    rfl
  | m + 1, bs, h => by
    rcases List.mem_append.mp h with h | h
    · obtain ⟨b, hb, rfl⟩ := List.mem_map.mp h
      rw [List.length_cons, chB_elt m b hb]
    · obtain ⟨b, hb, rfl⟩ := List.mem_map.mp h
      rw [List.length_cons, chB_elt m b hb]
theorem chB_eq {m : Nat} (h : m ≤ 3) : chB m = allB m := by
  have hm : m = 0 ∨ m = 1 ∨ m = 2 ∨ m = 3 := by omega
  rcases hm with rfl | rfl | rfl | rfl <;> rfl
def spCh : Sp := fun vs H Q _ => ∃ m : Nat, vs = [.int (m : Int)] ∧ m ≤ 3 ∧ ∀ H' p fs, Same H H' → H' p = some (.lst (fs.map V.ref)) → TAt H' fs (allB m) → Q (.ref p) H'
set_option maxHeartbeats 1000000 in
theorem ok_ch {f : Addr} {fd : FuncData} {k : Nat} (F : Fun K "_law_choices" "_law_choices" s_law_choices f fd) (mr : mg "range" = none) : FnOk P w K mg base CX0 (k + 1) f fd ["many"] spCh := by
  refine F.ok sc_law_choices (fun vs H Q E h => ?_) (fun cdv A outer s H vs Q E hr h => ?_)
  · obtain ⟨m, rfl, _⟩ := h
    rfl
  · obtain ⟨m, rfl, m3, q⟩ := h
    refine ⟨_, pss_cons (ps_set (i := 1) sc_law_choices.nd rfl (.inl rfl) (pe_lst (pa_cons (pe_tup pa_nil) pa_nil)))
      (pss_cons (ps_for PassesOwn.never rfl (pi_range1 (by rfl) mr (pa_cons (pv 0) pa_nil)) (pg_name (i := 2) sc_law_choices.nd rfl (.inl rfl))
        (pss_one (ps_set (i := 1) sc_law_choices.nd rfl (.inl rfl) (pe_op op_cat
          (pe_lc (own := [("some", 3)]) (g := gName 3) (by rfl) sc_law_choices.nd (pi_list (pv 1)) (blkOk_by (own := [("some", 3)]) (N := N_law_choices) (sc := defScope s_law_choices) (by decide +kernel)) (fun _ _ _ _ _ => pg_name (i := 3) sc_law_choices.nd rfl (Or.inl rfl)) (fun _ _ _ _ _ => pts_nil) (fun _ _ _ _ _ => pe_op op_catZ (pe_tup (pa_cons pe_int pa_nil)) (pv 3)))
          (pe_lc (own := [("some", 3)]) (g := gName 3) (by rfl) sc_law_choices.nd (pi_list (pv 1)) (blkOk_by (own := [("some", 3)]) (N := N_law_choices) (sc := defScope s_law_choices) (by decide +kernel)) (fun _ _ _ _ _ => pg_name (i := 3) sc_law_choices.nd rfl (Or.inl rfl)) (fun _ _ _ _ _ => pts_nil) (fun _ _ _ _ _ => pe_op op_catZ (pe_tup (pa_cons pe_int pa_nil)) (pv 3)))))))
      (pss_one (ps_ret (pv 1)))), ?_⟩
    refine ⟨Nat.zero_le _, fun T0 hT0 => ⟨(by show 1 ≤ sizeLine; decide), fun L0 hL0 => ?_⟩⟩
    have sT0 := same_new (o := .tup []) hT0
    have sL0 := same_new (o := .lst [.ref T0]) hL0
    refine ⟨.int m, rfl, m, rfl, by omega, by omega, for_range (lo := 0) (n := m) (fun i σ H3 => ∃ y2 L fs, σ = [some (.int (m : Int)), some (.ref L), y2, none] ∧ H3 L = some (.lst (fs.map V.ref)) ∧ TAt H3 fs (chB i) ∧ Same H H3) ⟨none, L0, [T0], rfl, upd_same, .cons (sL0 _ _ upd_same) .nil, sT0.trans sL0⟩ (fun i σ H3 hi hp => ?_) (fun σ H3 hp => ?_)⟩
    · obtain ⟨y2, L, fs, rfl, eL, hf, s3⟩ := hp
      have p8 : 2 ^ i ≤ 8 := Nat.le_trans (Nat.pow_le_pow_right (by decide) (show i ≤ 3 by omega)) (by decide)
      have lf := awLen hf
      rw [chB_len] at lf
      refine ⟨.ref L, rfl, L, rfl, ⟨_, .inl (.inl eL)⟩, fun C0 hC0 => ?_⟩
      refine lc_list (K := K) (a := L) (xs := fs.map V.ref) (fun j H6 => ∃ qs, H6 C0 = some (.lst (qs.map V.ref)) ∧ TAt H6 qs (((chB i).take j).map (0 :: ·)) ∧ Same H3 H6) ⟨[], upd_same, .nil, same_new hC0⟩ (fun j H6 _ hp => ?_) (fun j x H6 hx hp => ?_) (fun H4 hp => ?_)
      · obtain ⟨_, _, _, s6⟩ := hp
        exact .inl (.inl (s6 _ _ eL))
      · obtain ⟨qs, eC, hq, s6⟩ := hp
        rw [List.getElem?_map] at hx
        obtain ⟨g, hg1, rfl⟩ := Option.map_eq_some_iff.mp hx
        obtain ⟨bs, hb1, hb2⟩ := awGet hf hg1
        have hb2' : H3 g = some (.tup (bs.map V.int)) := hb2
        have eg : H6 g = some (.tup (bs.map V.int)) := s6 _ _ hb2'
        have lq := awLen hq
        rw [List.length_map, List.length_take] at lq
        have jl := (List.getElem?_eq_some_iff.mp hb1).1
        have bl := chB_elt i bs (List.mem_of_getElem? hb1)
        rw [chB_len] at jl
        refine ⟨rfl, (by show 1 ≤ sizeLine; decide), fun T hT => ?_⟩
        have sT := same_new (o := .tup [.int 0]) hT
        refine ⟨.ref g, rfl, T, g, _, _, rfl, rfl, upd_same, sT _ _ eg, ?_, fun p H7 s7 e7 => ?_⟩
        · rw [List.length_map]
          exact Nat.le_of_lt (small1000 (by show 1 + bs.length ≤ 1000; omega))
        have eC7 := s7 _ _ (sT _ _ eC)
        have e7' : H7 p = some (.tup ((0 :: bs).map V.int)) := e7
        refine ⟨_, eC7, ?_, qs ++ [p], ?_, ?_, ?_⟩
        · rw [List.length_map]
          exact small1000 (by omega)
        · rw [upd_same, List.map_append]
          rfl
        · rw [List.take_add_one, hb1, List.map_append]
          exact tat_stay (tups_put eC7) (awSnoc (F := fun (f : Addr) (b : List Int) => H7 f = some (.tup (b.map V.int))) e7' (tat_stay (Same.tups (sT.trans s7)) hq))
        · intro b u e
          rw [upd_ne (ne_of_none e hC0)]
          exact s7 _ _ (sT _ _ (s6 _ _ e))
      obtain ⟨qs0, eC0, hq0, s4⟩ := hp
      have fl0 : (fs.map V.ref).length = (chB i).length := by rw [List.length_map, lf, chB_len]
      rw [fl0, List.take_length] at hq0
      have lq0 := awLen hq0
      rw [List.length_map, chB_len] at lq0
      refine ⟨.ref L, rfl, L, rfl, ⟨_, .inl (.inl (s4 _ _ eL))⟩, fun C1 hC1 => ?_⟩
      refine lc_list (K := K) (a := L) (xs := fs.map V.ref) (fun j H6 => ∃ qs, H6 C1 = some (.lst (qs.map V.ref)) ∧ TAt H6 qs (((chB i).take j).map (1 :: ·)) ∧ Same H4 H6) ⟨[], upd_same, .nil, same_new hC1⟩ (fun j H6 _ hp => ?_) (fun j x H6 hx hp => ?_) (fun H5 hp => ?_)
      · obtain ⟨_, _, _, s6⟩ := hp
        exact .inl (.inl (s6 _ _ (s4 _ _ eL)))
      · obtain ⟨qs, eC, hq, s6⟩ := hp
        rw [List.getElem?_map] at hx
        obtain ⟨g, hg1, rfl⟩ := Option.map_eq_some_iff.mp hx
        obtain ⟨bs, hb1, hb2⟩ := awGet hf hg1
        have hb2' : H3 g = some (.tup (bs.map V.int)) := hb2
        have eg : H6 g = some (.tup (bs.map V.int)) := s6 _ _ (s4 _ _ hb2')
        have lq := awLen hq
        rw [List.length_map, List.length_take] at lq
        have jl := (List.getElem?_eq_some_iff.mp hb1).1
        have bl := chB_elt i bs (List.mem_of_getElem? hb1)
        rw [chB_len] at jl
        refine ⟨rfl, (by show 1 ≤ sizeLine; decide), fun T hT => ?_⟩
        have sT := same_new (o := .tup [.int 1]) hT
        refine ⟨.ref g, rfl, T, g, _, _, rfl, rfl, upd_same, sT _ _ eg, ?_, fun p H7 s7 e7 => ?_⟩
        · rw [List.length_map]
          exact Nat.le_of_lt (small1000 (by show 1 + bs.length ≤ 1000; omega))
        have eC7 := s7 _ _ (sT _ _ eC)
        have e7' : H7 p = some (.tup ((1 :: bs).map V.int)) := e7
        refine ⟨_, eC7, ?_, qs ++ [p], ?_, ?_, ?_⟩
        · rw [List.length_map]
          exact small1000 (by omega)
        · rw [upd_same, List.map_append]
          rfl
        · rw [List.take_add_one, hb1, List.map_append]
          exact tat_stay (tups_put eC7) (awSnoc (F := fun (f : Addr) (b : List Int) => H7 f = some (.tup (b.map V.int))) e7' (tat_stay (Same.tups (sT.trans s7)) hq))
        · intro b u e
          rw [upd_ne (ne_of_none e hC1)]
          exact s7 _ _ (sT _ _ (s6 _ _ e))
      obtain ⟨qs1, eC1, hq1, s5⟩ := hp
      have fl1 : (fs.map V.ref).length = (chB i).length := by rw [List.length_map, lf, chB_len]
      rw [fl1, List.take_length] at hq1
      have lq1 := awLen hq1
      rw [List.length_map, chB_len] at lq1
      refine ⟨C0, C1, _, _, rfl, rfl, s5 _ _ eC0, eC1, ?_, fun U hU => ?_⟩
      · rw [List.length_map, List.length_map, lq0, lq1]
        exact Nat.le_of_lt (small1000 (by omega))
      have sU := same_new (o := .lst (qs0.map V.ref ++ qs1.map V.ref)) hU
      refine ⟨_, U, qs0 ++ qs1, rfl, ?_, ?_, s3.trans (s4.trans (s5.trans sU))⟩
      · rw [upd_same, List.map_append]
      · exact awAppend (tat_stay (Same.tups (s5.trans sU)) hq0) (tat_stay (Same.tups sU) hq1)
    · obtain ⟨y2, L, fs, rfl, eL, hf, s3⟩ := hp
      rw [chB_eq m3] at hf
      exact ⟨.ref L, rfl, q H3 L fs s3 eL hf⟩
/-! ### _law_counted -/
def kB (c : List Int) (b : Int) : NestedKey := .tup [kC c, .num b]
theorem kB_inj {a c : List Int} {x y : Int} (h : kB a x = kB c y) : a = c ∧ x = y := by
  have h1 := NestedKey.tup.inj h
  rw [List.cons.injEq, List.cons.injEq] at h1
  exact ⟨kC_inj h1.1, NestedKey.num.inj h1.2.1⟩
theorem keyB {H : Hp} {T C : Addr} {c : List Int} {b : Int} (h : H T = some (.tup [.ref C, .int b])) (hC : H C = some (.tup (c.map V.int))) : KeyN H (.ref T) (kB c b) := by
  refine ⟨.tup h (.cons (keyC hC).1 (.cons (.num b) .nil)), ?_, T, rfl⟩
  unfold kB kC
  simp [NestedKey.depth, NestedKey.depthAll, nums_depth c]
def bhd (m : Nat) (ds : List Deed) (o : Int) (c : List Int) (wb : Int) : List (List Int) := ((allB m).filter fun bs => decide (ob ds o c bs = wb)).map (nc ds c)
theorem ctr_bhd (m : Nat) (ds : List Deed) (o : Int) (c : List Int) (wb v : Int) : ctr wb v (stp m ds o c) = (bhd m ds o c wb).map fun b => (b, v) := by
  unfold ctr stp bhd
  generalize allB m = L
  induction L with
  | nil => rfl
  | cons bs L ih =>
    rw [List.map_cons, List.flatMap_cons, ih, List.filter_cons]
    show (if ob ds o c bs = wb then [(nc ds c bs, v)] else []) ++ _ = _
    by_cases h : ob ds o c bs = wb
    · rw [if_pos h, if_pos (decide_eq_true h)]
      rfl
    · rw [if_neg h, if_neg (by rw [decide_eq_false h]; exact Bool.false_ne_true)]
      rfl
theorem bhd_bits {m : Nat} {ds : List Deed} {o : Int} {c : List Int} {wb : Int} (hl : c.length = ds.length) (hb : ∀ y ∈ c, Bit y) : ∀ x ∈ bhd m ds o c wb, x.length = ds.length ∧ ∀ y ∈ x, Bit y := by
  intro x hx
  obtain ⟨bs, h1, rfl⟩ := List.mem_map.mp hx
  have h3 := (List.mem_filter.mp h1).1
  exact ⟨nxt_len hl.symm, nxt_bits (bts_bits (allB_ok m bs h3).2 hb) hb⟩
theorem bhd_len {m : Nat} {ds : List Deed} {o : Int} {c : List Int} {wb : Int} (m3 : m ≤ 3) : (bhd m ds o c wb).length ≤ 8 := by
  unfold bhd
  rw [List.length_map]
  refine Nat.le_trans (List.length_filter_le _ _) ?_
  rw [allB_len]
  exact Nat.le_trans (Nat.pow_le_pow_right (by decide) m3) (by decide)
def KnB (H : Hp) (m : Nat) (ds : List Deed) (o : Int) (xs : List NE) : Prop := ∀ p ∈ xs, ∃ (c : List Int) (wb : Int) (q : Addr) (qs : List Addr), p.1 = kB c wb ∧ p.2.2 = .ref q ∧ H q = some (.lst (qs.map V.ref)) ∧ TAt H qs (bhd m ds o c wb)
theorem KnB.mono {H H' : Hp} {m : Nat} {ds : List Deed} {o : Int} {xs : List NE} (h : KnB H m ds o xs) (tl : ∀ q ys, H q = some (.lst ys) → H' q = some (.lst ys)) (tt : TupsStay H H') : KnB H' m ds o xs := fun p hp => by
  obtain ⟨c, wb, q, qs, h1, h2, h3, h4⟩ := h p hp
  exact ⟨c, wb, q, qs, h1, h2, tl _ _ h3, tat_stay tt h4⟩
theorem KnB.same {H H' : Hp} {m : Nat} {ds : List Deed} {o : Int} {xs : List NE} (h : KnB H m ds o xs) (s : Same H H') : KnB H' m ds o xs := h.mono (fun _ _ e => s _ _ e) (Same.tups s)
def StpAt (H : Hp) (S : Addr) (ds : List Deed) (c : List Int) (p : Addr) (bs : List Int) : Prop := ∃ A2 B2, A2 ≠ S ∧ H p = some (.tup [.ref A2, .ref B2]) ∧ H A2 = some (.lst ((bts ds c bs).map V.int)) ∧ H B2 = some (.tup ((nc ds c bs).map V.int))
theorem StpAt.stay {H H' : Hp} {S p : Addr} {ds : List Deed} {c bs : List Int} {ys : List V} (h : StpAt H S ds c p bs) (eS : H S = some (.lst ys)) (st : ∀ b u, b ≠ S → H b = some u → H' b = some u) : StpAt H' S ds c p bs := by
  obtain ⟨A2, B2, n, e1, e2, e3⟩ := h
  exact ⟨A2, B2, n, st _ _ (ne_of e1 eS (fun y => nomatch y)) e1, st _ _ n e2, st _ _ (ne_of e3 eS (fun y => nomatch y)) e3⟩
def spCd : Sp := fun vs H Q _ => ∃ (R : Addr) (m n : Nat) (W o : Int) (ds : List Deed), vs = [.ref R, .int (n : Int), .int W] ∧ n ≤ 60 ∧ 0 ≤ W ∧ RowAt H R m ds o ∧ RowOk m ds o ∧ ∀ H', Same H H' → Q (.int ((mat m ds o n W (ds.map fcD) : Nat) : Int)) H'
abbrev scCd1 : Scope := ⟨.function, [(".0", .local), ("bits", .local), ("_law_step", .globalImplicit), ("row", .free), ("carry", .free)], false, false, []⟩
set_option maxHeartbeats 4000000 in
theorem ok_cd {f fF fL fC : Addr} {fd fdF fdL fdC : FuncData} {k : Nat} (F : Fun K "_law_counted" "_law_counted" s_law_counted f fd)
    (GF : FnOk P w K mg base CX0 (k + 1) fF fdF ["row"] spF1) (kF : PySem.W.keepIn K (.ref fF) = true) (bF : Binds K fdF ["row"] []) (gF : mg "_law_first" = some (.ref fF))
    (GL : FnOk P w K mg base CX0 (k + 1) fL fdL ["row", "carry", "bits"] spL1) (kL : PySem.W.keepIn K (.ref fL) = true) (bL : Binds K fdL ["row", "carry", "bits"] []) (gL : mg "_law_step" = some (.ref fL))
    (GC : FnOk P w K mg base CX0 (k + 1) fC fdC ["many"] spCh) (kC' : PySem.W.keepIn K (.ref fC) = true) (bC : Binds K fdC ["many"] []) (gC : mg "_law_choices" = some (.ref fC))
    (mr : mg "range" = none) (ms : mg "sum" = none) : FnOk P w K mg base CX0 (k + 2) f fd ["row", "width", "word"] spCd := by
  refine F.ok sc_law_counted (fun vs H Q E h => ?_) (fun cdv A outer s H vs Q E hr h => ?_)
  · obtain ⟨R, m, n, W, o, ds, rfl, _⟩ := h
    rfl
  · obtain ⟨R, m, n, W, o, ds, rfl, hn, w0, hrow, hok, q⟩ := h
    have hu := hu_of hr
    refine ⟨_, pss_cons (ps_set (i := 3) sc_law_counted.nd rfl (.inl rfl) (pe_dispT (Nat.lt_of_succ_lt hu) (pe_call GF hr (by rfl) gF kF bF .nil pass0 (pa_cons (pv 0) pa_nil)) pe_int))
      (pss_cons (ps_set (i := 4) sc_law_counted.nd rfl (.inl rfl) (pe_ndnew (P := P) (w := w) rfl rfl))
      (pss_cons (ps_for PassesOwn.never rfl (pi_range1 (by rfl) mr (pa_cons (pv 1) pa_nil)) (pg_name (i := 5) sc_law_counted.nd rfl (.inl rfl))
        (pss_cons (ps_set (i := 6) sc_law_counted.nd rfl (.inl rfl) pe_dnewT)
        (pss_cons (ps_lock (ps_for PassesOwn.never rfl (pi_keys (pv 3)) (pg_name (i := 7) sc_law_counted.nd rfl (.inr rfl))
          (pss_mid (ps_if (pt_cmp (pc_ndnotin (P := P) (w := w) rfl rfl hr.units (pe_tup (pa_cons (pv 7) (pa_cons (pe_op op_mod (pv 2) pe_int) pa_nil))) (pv 4)))
              (pss_cons (ps_setLc (i := 8) (own := [("bits", 10)]) (g := gName 10) (by rfl) sc_law_counted.nd rfl rfl (sw_true rfl rfl rfl (by decide +kernel)) (pi_list (pe_call GC hr (by rfl) gC kC' bC .nil pass0 (pa_cons (pe_ix ix_tup (pv 0) pe_int (fun _ _ => rfl)) pa_nil))) (blkOk_by (own := [("bits", 10)]) (N := N_law_counted) (sc := defScope s_law_counted) (by decide +kernel))
                (fun _ _ _ _ _ => pg_name (i := 10) sc_law_counted.nd rfl (Or.inl rfl)) (fun _ _ _ _ _ => pts_nil) (fun _ _ _ _ _ => pe_call GL hr (by rfl) gL kL bL .nil pass0 (pa_cons (pv 0) (pa_cons (pv 7) (pa_cons (pv 10) pa_nil)))))
              (pss_one (ps_ndput (P := P) (w := w) rfl rfl hr.units (pv 4) (pe_tup (pa_cons (pv 7) (pa_cons (pe_op op_mod (pv 2) pe_int) pa_nil))) (pe_lc (own := [("bits", 10), ("behind", 11)]) (g := gTup K 2 (gCons (gName 10) (gCons (gName 11) gNil))) (by rfl) sc_law_counted.nd (pi_list (pv 8)) (blkOk_by (own := [("bits", 10), ("behind", 11)]) (N := N_law_counted) (sc := defScope s_law_counted) (by decide +kernel))
                (fun _ _ _ _ _ => pg_tup rfl (pgs_cons (pg_name (i := 10) sc_law_counted.nd rfl (Or.inl rfl)) (pgs_cons (pg_name (i := 11) sc_law_counted.nd rfl (Or.inl rfl)) pgs_nil))) (fun _ _ _ _ _ => pts_one (pt_cmpR op_eq (pe_ix (r := rIxL K) ix_list (pv 10) (pe_ix (r := rIxT K) ix_tup (pv 0) pe_int (fun _ _ => rfl)) (fun _ _ => rfl)) (pe_op op_mod (pv 2) pe_int) (nomark _))) (fun _ _ _ _ _ => pv 11)) rfl))) pss_nil)
          (pss_one (ps_for PassesOwn.never rfl (pi_list (pe_ndget (P := P) (w := w) rfl rfl hr.units (pv 4) (pe_tup (pa_cons (pv 7) (pa_cons (pe_op op_mod (pv 2) pe_int) pa_nil))) (fun _ _ => rfl))) (pg_name (i := 9) sc_law_counted.nd rfl (.inl rfl))
            (pss_one (ps_dput hu (pv 6) (pv 9) (pe_op op_add (pe_dget2 hu (pv 6) (pv 9) pe_int ⟨rfl, rfl, rfl, rfl⟩) (pe_dget hu (pv 3) (pv 7) (fun _ _ => rfl))) rfl)))))))
        (pss_cons (ps_set (i := 3) sc_law_counted.nd rfl (.inl rfl) (pv 6))
        (pss_one (ps_set (i := 2) sc_law_counted.nd rfl (.inr rfl) (pe_op op_fdiv (pv 2) pe_int)))))))
      (pss_one (ps_ret (pe_callB (call_sumV rfl) (by rfl) ms (by decide +kernel) (pa_cons (pe_bm0 PySem.F.plainAttrs_dict PySem.F.slot_dict_values PySem.F.type_dict_values mt_valsT (pv 3)) pa_nil)))))), ?_⟩
    have l8 := hok.len
    have m3 := hok.m3
    have m3' : m ≤ 3 := by omega
    have o0 := hok.o0
    have o1 := hok.o1
    intro Ws hWs
    have sW := same_new (o := .dT []) hWs
    refine ⟨.ref R, rfl, R, m, o, ds, rfl, (Same.tups sW).row hrow, by omega, fun H1 C s1 eC => ?_⟩
    refine ⟨C, kI (ds.map fcD), rfl, by rw [kI_V]; exact eC, s1 _ _ upd_same, ?_⟩
    have e0 : [(kI (ds.map fcD), V.int 1)] = emb V.int [(ds.map fcD, 1)] := rfl
    rw [e0]
    obtain ⟨H2, hH2⟩ : ∃ H2, H2 = upd H1 Ws (.dT (emb V.int [(ds.map fcD, 1)])) := ⟨_, rfl⟩
    have eW2 : H2 Ws = some (.dT (emb V.int [(ds.map fcD, 1)])) := by rw [hH2]; exact upd_same
    have sH2 : Same H H2 := fun b u e => by
      rw [hH2, upd_ne (ne_of_none e hWs)]
      exact s1 _ _ (sW _ _ e)
    rw [← hH2]
    clear hH2 s1 sW eC
    intro Kn hKn
    have nKH : H Kn = none := sH2.free hKn
    have nWK : Ws ≠ Kn := fun z => by rw [← z, eW2] at hKn; cases hKn
    have sK := same_new (o := NDO P w Kn []) hKn
    refine ⟨.int n, rfl, n, rfl, by omega, by omega, for_range (lo := 0) (n := n) (fun t σ H3 => ∃ y5 y6 y7 y8 y9 Ws es xs, σ = [some (.ref R), some (.int (n : Int)), some (.int (W / 2 ^ t)), some (.ref Ws), some (.ref Kn), y5, y6, y7, y8, y9, none, none] ∧ H3 Ws = some (.dT (emb V.int es)) ∧ Ws ≠ Kn ∧ (es.map (·.1)).Nodup ∧ (∀ e ∈ es, e.1.length = ds.length ∧ ∀ x ∈ e.1, Bit x) ∧ (t ≤ n → lin (fun c => (mat m ds o (n - t) (W / 2 ^ t) c : Int)) es = (mat m ds o n W (ds.map fcD) : Nat)) ∧ ND P w H3 Kn xs ∧ KnB H3 m ds o xs ∧ xs.length ≤ t * 256 ∧ H Ws = none ∧ Same H H3)
      ⟨none, none, none, none, none, Ws, [(ds.map fcD, 1)], [], ?_, sK _ _ eW2, nWK, by simp, fun e he => ?_, fun _ => ?_, nd_nil, (fun _ z => nomatch z), Nat.zero_le _, hWs, sH2.trans sK⟩ (fun t σ H3 ht hp => ?_) (fun σ H3 hp => ?_)⟩
    · rw [Int.pow_zero, Int.ediv_one]
      rfl
    · rw [List.mem_singleton.mp he]
      have sh := rch_shp (crry_rch ds [] 0)
      exact ⟨sh.len, sh.bits⟩
    · rw [Int.pow_zero, Int.ediv_one, Nat.sub_zero]
      unfold lin
      simp
    · obtain ⟨y5, y6, y7, y8, y9, Ws, es, xs, rfl, eW, nWK, nd, hb, g, hnd, hkn, hxl, hWn, s3⟩ := hp
      clear hWs eW2
      have wt0 : 0 ≤ W / 2 ^ t := Int.ediv_nonneg w0 (by have := pw_pos t; omega)
      have lfew := few_keys (n := ds.length) nd hb l8
      intro Lt hLt
      have nLH : H Lt = none := s3.free hLt
      have nLW : Lt ≠ Ws := fun z => by rw [z, eW] at hLt; cases hLt
      have nLK : Lt ≠ Kn := fun z => by rw [z, hnd.ob] at hLt; cases hLt
      have sLt := same_new (o := .dT []) hLt
      refine ⟨Ws, .dT (emb V.int es), sLt _ _ eW, True.intro, fun od => ?_⟩
      obtain ⟨HL, hHL⟩ : ∃ HL, HL = upd (upd H3 Lt (.dT [])) Ws (.frz od (.dT (emb V.int es))) := ⟨_, rfl⟩
      have eWL : HL Ws = some (.frz od (.dT (emb V.int es))) := by rw [hHL]; exact upd_same
      have eLL : HL Lt = some (.dT []) := by rw [hHL, upd_ne nLW]; exact upd_same
      have toL : ∀ b u, b ≠ Ws → H3 b = some u → HL b = some u := fun b u nb e => by
        rw [hHL, upd_ne nb]
        exact sLt _ _ e
      have tL : TupsStay H3 HL := fun b xs e => toL b _ (ne_of e eW (fun z => nomatch z)) e
      have ndL : ND P w HL Kn xs := nd_stay hnd (toL _ _ nWK.symm hnd.ob) tL
      have knL : KnB HL m ds o xs := hkn.mono (fun q ys e => toL _ _ (ne_of e eW (fun z => nomatch z)) e) tL
      rw [← hHL]
      refine ⟨.ref Ws, rfl, Ws, od, rfl, .inr ⟨_, eWL, for_it (walk_keysT (d := Ws) (o := od) (kvs := emb V.int es)) (fun i σ H5 => ∃ y7 y8 y9 ts xs, σ = [some (.ref R), some (.int (n : Int)), some (.int (W / 2 ^ t)), some (.ref Ws), some (.ref Kn), some (.int (0 + t)), some (.ref Lt), y7, y8, y9, none, none] ∧ H5 Lt = some (.dT (emb V.int ts)) ∧ SumRep (ctrs m (W / 2 ^ t % 2) ds o (es.take i)) ts ∧ ND P w H5 Kn xs ∧ KnB H5 m ds o xs ∧ xs.length ≤ t * 256 + i ∧ ∀ b u, b ≠ Kn → b ≠ Lt → HL b = some u → H5 b = some u)
        ⟨y7, y8, y9, [], xs, rfl, eLL, ⟨List.nodup_nil, (fun _ z => nomatch z), (fun _ => rfl)⟩, ndL, knL, by omega, fun _ _ _ _ e => e⟩ (fun i σ H5 _ hp => ?_) (fun i x σ H6 H5 hi hp hy => ?_) (fun σ H5 hp => ?_)⟩⟩
      · obtain ⟨_, _, _, _, _, _, _, _, _, _, _, st⟩ := hp
        exact st _ _ nWK nLW.symm eWL
      · obtain ⟨y7, y8, y9, ts, xs, rfl, eT, mr, nd5, kn5, xl5, st⟩ := hp
        obtain ⟨rfl, k0, v0, C, hkv, rfl, hC⟩ := hy
        have il : i < es.length := by
          have : (emb V.int es).length = es.length := List.length_map ..
          rwa [this] at hi
        obtain ⟨e, he, hk0⟩ : ∃ e, es[i]? = some e ∧ (k0, v0) = (kI e.1, V.int e.2) := by
          unfold emb at hkv
          rw [List.getElem?_map] at hkv
          cases h : es[i]? with
          | none => rw [h] at hkv; cases hkv
          | some e => rw [h] at hkv; exact ⟨e, rfl, (Option.some.inj hkv).symm⟩
        obtain ⟨rfl, rfl⟩ := Prod.mk.inj hk0
        rw [kI_V] at hC
        obtain ⟨hl, hbt⟩ := hb e (List.mem_of_getElem? he)
        have rowS : ∀ {H6 : Hp}, TupsStay H5 H6 → RowAt H6 R m ds o := fun s6 => by
          refine TupsStay.row (fun b xs z => ?_) hrow
          have z1 := tL b xs (s3 _ _ z)
          exact s6 _ _ (st _ _ (ne_of z1 ndL.ob (fun y => nomatch y)) (ne_of z1 eLL (fun y => nomatch y)) z1)
        refine ⟨fun σ' H' => ∃ y8 xs p qs, σ' = [some (.ref R), some (.int (n : Int)), some (.int (W / 2 ^ t)), some (.ref Ws), some (.ref Kn), some (.int (0 + t)), some (.ref Lt), some (.ref C), y8, y9, none, none] ∧ H' Lt = some (.dT (emb V.int ts)) ∧ H' C = some (.tup (e.1.map V.int)) ∧ ND P w H' Kn xs ∧ KnB H' m ds o xs ∧ xs.length ≤ t * 256 + (i + 1) ∧ getN xs (kB e.1 (W / 2 ^ t % 2)) = some (.ref p) ∧ H' p = some (.lst (qs.map V.ref)) ∧ TAt H' qs (bhd m ds o e.1 (W / 2 ^ t % 2)) ∧ ∀ b u, b ≠ Kn → b ≠ Lt → HL b = some u → H' b = some u, ?_, ?_⟩
        · refine ⟨.ref C, rfl, .int (W / 2 ^ t), rfl, _, 2, rfl, rfl, (by show (0 : Int) < 2; decide), (by show 2 ≤ sizeLine; decide), fun T hT => ?_⟩
          have sT := same_new (o := .tup [.ref C, .int (W / 2 ^ t % 2)]) hT
          have nd6 := nd_same nd5 sT
          have key6 : KeyN (upd H5 T (.tup [.ref C, .int (W / 2 ^ t % 2)])) (.ref T) (kB e.1 (W / 2 ^ t % 2)) := keyB upd_same (sT _ _ hC)
          refine ⟨.ref Kn, rfl, Kn, xs, kB e.1 (W / 2 ^ t % 2), rfl, nd6, key6, _, rfl, ?_⟩
          cases eg : getN xs (kB e.1 (W / 2 ^ t % 2)) with
          | some v =>
            obtain ⟨b0, hm0⟩ := getN_some eg
            obtain ⟨c', wb', qa, qs, h1, h2, h3, h4⟩ := kn5 _ hm0
            obtain ⟨rfl, rfl⟩ := kB_inj h1
            obtain rfl : v = .ref qa := h2
            exact ⟨y8, xs, qa, qs, rfl, sT _ _ eT, sT _ _ hC, nd6, kn5.same sT, by omega, eg, sT _ _ h3, tat_stay (Same.tups sT) h4, fun b u n1 n2 z => sT _ _ (st b u n1 n2 z)⟩
          | none =>
            obtain ⟨H6, hH6⟩ : ∃ H6, H6 = upd H5 T (.tup [.ref C, .int (W / 2 ^ t % 2)]) := ⟨_, rfl⟩
            rw [← hH6] at sT nd6 key6 ⊢
            clear hH6
            have row6 := rowS (Same.tups sT)
            obtain ⟨Dr, rr, eR6, _, _⟩ := id row6
            refine ⟨.ref R, rfl, R, _, 0, .int m, rfl, rfl, SqT.of eR6, row0, m, rfl, m3', fun H7 L7 fs s7 eL7 hf => ?_⟩
            refine ⟨L7, rfl, ⟨_, .inl (.inl eL7)⟩, fun S8 hS8 => ?_⟩
            have lf := awLen hf
            rw [allB_len] at lf
            have p8 : 2 ^ m ≤ 8 := Nat.le_trans (Nat.pow_le_pow_right (by decide) m3') (by decide)
            have C7 := s7 _ _ (sT _ _ hC)
            refine lc_list (K := K) (a := L7) (xs := fs.map V.ref) (fun j H8 => ∃ ps, H8 S8 = some (.lst (ps.map V.ref)) ∧ Paired (StpAt H8 S8 ds e.1) ps ((allB m).take j) ∧ Same H7 H8) ⟨[], upd_same, .nil, same_new hS8⟩ (fun j H8 _ hp => ?_) (fun j x H8 hx hp => ?_) (fun H8 hp => ?_)
            · obtain ⟨_, _, _, s8⟩ := hp
              exact .inl (.inl (s8 _ _ eL7))
            · obtain ⟨ps, eS, hps, s8⟩ := hp
              rw [List.getElem?_map] at hx
              obtain ⟨fa, hfa, rfl⟩ := Option.map_eq_some_iff.mp hx
              obtain ⟨bs, hbs, hfb⟩ := awGet hf hfa
              have hfb' : H7 fa = some (.tup (bs.map V.int)) := hfb
              obtain ⟨bl, bb⟩ := allB_ok m bs (List.mem_of_getElem? hbs)
              refine ⟨rfl, .ref R, rfl, .ref C, rfl, .ref fa, rfl, R, C, fa, m, o, ds, e.1, bs, rfl, (Same.tups (s7.trans s8)).row row6, hok, s8 _ _ C7, hl, s8 _ _ hfb', bl, hbt, bb, fun H9 p A2 B2 s9 nA2 ep eA eB => ?_⟩
              have eS9 := s9 _ _ eS
              have nA : A2 ≠ S8 := fun z => by rw [z, eS] at nA2; cases nA2
              have lps := awLen hps
              rw [List.length_take, allB_len] at lps
              refine ⟨_, eS9, ?_, ps ++ [p], ?_, ?_, ?_⟩
              · rw [List.length_map]
                exact small1000 (by omega)
              · rw [upd_same, List.map_append]
                rfl
              · rw [List.take_add_one, hbs]
                refine awSnoc (F := StpAt _ S8 ds e.1) ⟨A2, B2, nA, ?_, ?_, ?_⟩ (awMap (fun p bs z => z.stay eS fun b u nb y => ?_) hps)
                · rw [upd_ne (ne_of ep eS9 (fun y => nomatch y))]
                  exact ep
                · rw [upd_ne nA]
                  exact eA
                · rw [upd_ne (ne_of eB eS9 (fun y => nomatch y))]
                  exact eB
                · rw [upd_ne nb]
                  exact s9 _ _ y
              · intro b u z
                rw [upd_ne (ne_of_none z hS8)]
                exact s9 _ _ (s8 _ _ z)
            obtain ⟨ps, eS, hps, s8⟩ := hp
            have fl : (fs.map V.ref).length = (allB m).length := by rw [List.length_map, lf, allB_len]
            rw [fl, List.take_length] at hps
            have lps := awLen hps
            rw [allB_len] at lps
            have row8 := (Same.tups (s7.trans s8)).row row6
            obtain ⟨Dr8, rr8, eR8, _, _⟩ := id row8
            refine ⟨.ref S8, rfl, S8, rfl, ⟨_, .inl (.inl eS)⟩, fun Z hZ => ?_⟩
            refine lc_list (K := K) (a := S8) (xs := ps.map V.ref) (fun j H9 => ∃ qs, H9 Z = some (.lst (qs.map V.ref)) ∧ TAt H9 qs ((((allB m).take j).filter fun bs => decide (ob ds o e.1 bs = W / 2 ^ t % 2)).map (nc ds e.1)) ∧ Same H8 H9) ⟨[], upd_same, .nil, same_new hZ⟩ (fun j H9 _ hp => ?_) (fun j x H9 hx hp => ?_) (fun H9 hp => ?_)
            · obtain ⟨_, _, _, s9⟩ := hp
              exact .inl (.inl (s9 _ _ eS))
            · obtain ⟨qs, eZ, hq, s9⟩ := hp
              rw [List.getElem?_map] at hx
              obtain ⟨pa, hpa, rfl⟩ := Option.map_eq_some_iff.mp hx
              obtain ⟨bs, hbs, A2, B2, _, ep, eA, eB⟩ := awGet hps hpa
              obtain ⟨bl, bb⟩ := allB_ok m bs (List.mem_of_getElem? hbs)
              have btl : (bts ds e.1 bs).length = m + ds.length := by rw [bts_len hl.symm, bl]
              have jl := (List.getElem?_eq_some_iff.mp hbs).1
              rw [allB_len] at jl
              have lq := Nat.le_trans (Nat.le_of_eq (awLen hq)) (by rw [List.length_map]; exact Nat.le_trans (List.length_filter_le _ _) (by rw [List.length_take]; exact Nat.min_le_left _ _))
              refine ⟨pa, [.ref A2, .ref B2], rfl, .inl (.inl (s9 _ _ ep)), rfl, .ref A2, [.ref B2], rfl, .ref B2, [], rfl, rfl, rfl, ?_⟩
              refine ⟨.ref A2, rfl, .ref R, rfl, R, _, 2, .int o, rfl, rfl, SqT.of (s9 _ _ eR8), rfl, A2, _, o, .int (ob ds o e.1 bs), rfl, rfl, .inl (.inl (s9 _ _ eA)), atI_ints o0 (by rw [btl]; omega), .int (W / 2 ^ t), rfl, _, 2, rfl, rfl, (by show (0 : Int) < 2; decide), rfl, _, rfl, ite2 (fun ev => ?_) (fun ev => ?_)⟩
              · have hw := intEq ev
                refine ⟨.ref B2, rfl, _, eZ, ?_, qs ++ [B2], ?_, ?_, ?_⟩
                · rw [List.length_map]
                  exact small1000 (by omega)
                · rw [upd_same, List.map_append]
                  rfl
                · rw [List.take_add_one, hbs, List.filter_append, List.map_append]
                  have ef : [bs].filter (fun bs => decide (ob ds o e.1 bs = W / 2 ^ t % 2)) = [bs] := by
                    rw [List.filter_cons, if_pos (decide_eq_true hw)]
                    rfl
                  show TAt _ _ (_ ++ ([bs].filter _).map _)
                  rw [ef]
                  exact tat_stay (tups_put eZ) (awSnoc (F := fun (f : Addr) (b : List Int) => H9 f = some (.tup (b.map V.int))) (s9 _ _ eB) hq)
                · intro b u z
                  rw [upd_ne (ne_of_none z hZ)]
                  exact s9 _ _ z
              · have hw := intNe ev
                refine ⟨qs, eZ, ?_, s9⟩
                rw [List.take_add_one, hbs, List.filter_append, List.map_append]
                have ef : [bs].filter (fun bs => decide (ob ds o e.1 bs = W / 2 ^ t % 2)) = [] := by
                  rw [List.filter_cons, if_neg (by rw [decide_eq_false hw]; exact Bool.false_ne_true)]
                  rfl
                show TAt _ _ (_ ++ ([bs].filter _).map _)
                rw [ef, List.map_nil, List.append_nil]
                exact hq
            obtain ⟨qs, eZ, hq, s9⟩ := hp
            have pl : (ps.map V.ref).length = (allB m).length := by rw [List.length_map, lps, allB_len]
            rw [pl, List.take_length] at hq
            have s59 := sT.trans (s7.trans (s8.trans s9))
            have C9 := s9 _ _ (s8 _ _ C7)
            refine ⟨.ref Kn, rfl, .ref C, rfl, .int (W / 2 ^ t), rfl, _, 2, rfl, rfl, (by show (0 : Int) < 2; decide), (by show 2 ≤ sizeLine; decide), fun T2 hT2 => ?_⟩
            have sT2 := same_new (o := .tup [.ref C, .int (W / 2 ^ t % 2)]) hT2
            have ndX := nd_same (nd_same nd5 s59) sT2
            have keyX : KeyN (upd H9 T2 (.tup [.ref C, .int (W / 2 ^ t % 2)])) (.ref T2) (kB e.1 (W / 2 ^ t % 2)) := keyB upd_same (sT2 _ _ C9)
            have eKn := ndX.ob
            refine ⟨Kn, xs, kB e.1 (W / 2 ^ t % 2), T2, rfl, ndX, rfl, keyX, eg, by rw [sizeLine_eq]; omega, ?_⟩
            have ndY := nd_put (v := .ref Z) ndX keyX
            have sKn : ∀ b u, b ≠ Kn → upd H9 T2 (.tup [.ref C, .int (W / 2 ^ t % 2)]) b = some u → upd (upd H9 T2 (.tup [.ref C, .int (W / 2 ^ t % 2)])) Kn (NDO P w Kn (xs ++ [(kB e.1 (W / 2 ^ t % 2), T2, .ref Z)])) b = some u := fun b u nb z => by
              rw [upd_ne nb]
              exact z
            have tKn : TupsStay H9 (upd (upd H9 T2 (.tup [.ref C, .int (W / 2 ^ t % 2)])) Kn (NDO P w Kn (xs ++ [(kB e.1 (W / 2 ^ t % 2), T2, .ref Z)]))) := fun b ys z => sKn _ _ (ne_of (sT2 _ _ z) eKn (fun y => nomatch y)) (sT2 _ _ z)
            have lKn : ∀ b ys, H9 b = some (.lst ys) → upd (upd H9 T2 (.tup [.ref C, .int (W / 2 ^ t % 2)])) Kn (NDO P w Kn (xs ++ [(kB e.1 (W / 2 ^ t % 2), T2, .ref Z)])) b = some (.lst ys) := fun b ys z => sKn _ _ (ne_of (sT2 _ _ z) eKn (fun y => nomatch y)) (sT2 _ _ z)
            refine ⟨_, xs ++ [(kB e.1 (W / 2 ^ t % 2), T2, .ref Z)], Z, qs, rfl, ?_, tKn _ _ C9, ndY, ?_, ?_, ?_, lKn _ _ eZ, tat_stay tKn hq, ?_⟩
            · exact sKn _ _ nLK (sT2 _ _ (s59 _ _ eT))
            · intro p hp
              rcases List.mem_append.mp hp with hp | hp
              · exact ((kn5.same s59).mono lKn tKn) p hp
              · rw [List.mem_singleton.mp hp]
                exact ⟨e.1, W / 2 ^ t % 2, Z, qs, rfl, rfl, lKn _ _ eZ, tat_stay tKn hq⟩
            · rw [List.length_append]
              show _ + 1 ≤ _
              omega
            · rw [getN_snoc eg, if_pos rfl]
            · intro b u n1 n2 z
              exact sKn _ _ n1 (sT2 _ _ (s59 _ _ (st b u n1 n2 z)))
        · rintro σ' H6 ⟨y8, xs, p, qs, rfl, eT6, hC6, nd6, kn6, xl6, eg, ep, hq, st6⟩
          refine ⟨.ref Kn, rfl, .ref C, rfl, .int (W / 2 ^ t), rfl, _, 2, rfl, rfl, (by show (0 : Int) < 2; decide), (by show 2 ≤ sizeLine; decide), fun T hT => ?_⟩
          have sT := same_new (o := .tup [.ref C, .int (W / 2 ^ t % 2)]) hT
          have keyX : KeyN (upd H6 T (.tup [.ref C, .int (W / 2 ^ t % 2)])) (.ref T) (kB e.1 (W / 2 ^ t % 2)) := keyB upd_same (sT _ _ hC6)
          have lq := Nat.le_trans (Nat.le_of_eq (awLen hq)) (bhd_len m3')
          have bb := bhd_bits (m := m) (o := o) (wb := W / 2 ^ t % 2) hl hbt
          refine ⟨Kn, xs, kB e.1 (W / 2 ^ t % 2), .ref p, rfl, nd_same nd6 sT, keyX, eg, p, rfl, ⟨_, .inl (.inl (sT _ _ ep))⟩, for_list (K := K) (a := p) (xs := qs.map V.ref) (fun j σ H7 => ∃ y9 ts, σ = [some (.ref R), some (.int (n : Int)), some (.int (W / 2 ^ t)), some (.ref Ws), some (.ref Kn), some (.int (0 + t)), some (.ref Lt), some (.ref C), y8, y9, none, none] ∧ H7 Lt = some (.dT (emb V.int ts)) ∧ SumRep (ctrs m (W / 2 ^ t % 2) ds o (es.take i) ++ ((bhd m ds o e.1 (W / 2 ^ t % 2)).take j).map fun b => (b, e.2)) ts ∧ ∀ b u, b ≠ Lt → upd H6 T (.tup [.ref C, .int (W / 2 ^ t % 2)]) b = some u → H7 b = some u)
            ⟨y9, ts, rfl, sT _ _ eT6, by rw [List.take_zero, List.map_nil, List.append_nil]; exact mr, fun _ _ _ z => z⟩ (fun j σ H7 _ hp => ?_) (fun j x σ H7 hx hp => ?_) (fun σ H7 hp => ?_)⟩
          · obtain ⟨_, _, _, _, _, st7⟩ := hp
            exact .inl (.inl (st7 _ _ (ne_of ep eT6 (fun y => nomatch y)) (sT _ _ ep)))
          · obtain ⟨y9, ts, rfl, eT7, mr7, st7⟩ := hp
            rw [List.getElem?_map] at hx
            obtain ⟨qa, hqa, rfl⟩ := Option.map_eq_some_iff.mp hx
            obtain ⟨b, hb1, hb2⟩ := awGet hq hqa
            have hb2' : H6 qa = some (.tup (b.map V.int)) := hb2
            have e3 : H7 qa = some (.tup (b.map V.int)) := st7 _ _ (ne_of hb2' eT6 (fun y => nomatch y)) (sT _ _ hb2')
            have g7 := DGet.t (k := kI b) eT7 (by rw [kI_V]; exact e3)
            rw [emb_get] at g7
            have gv : ((getA ts b).map V.int).getD (.int 0) = .int ((getA ts b).getD 0) := by cases getA ts b <;> rfl
            have eW7 : H7 Ws = some (.frz od (.dT (emb V.int es))) := st7 _ _ nLW.symm (sT _ _ (st6 _ _ nWK nLW.symm eWL))
            have C7 : H7 C = some (.tup (e.1.map V.int)) := st7 _ _ (ne_of hC6 eT6 (fun y => nomatch y)) (sT _ _ hC6)
            have gW : DGet H7 Ws (.ref C) (some (.int e.2)) := by
              refine .inr ⟨emb V.int es, kI e.1, C, .inr ⟨od, eW7⟩, rfl, by rw [kI_V]; exact C7, ?_⟩
              rw [emb_get, getA_of nd (List.mem_of_getElem? he)]
              rfl
            have few : (emb V.int ts).length < sizeLine := by
              unfold emb
              rw [List.length_map]
              have := few_keys (n := ds.length) mr7.nd (fun z hz => ?_) l8
              · exact small1000 (by omega)
              · obtain ⟨z', hz', hze⟩ := mr7.keys z hz
                rw [← hze]
                rcases List.mem_append.mp hz' with h1 | h1
                · obtain ⟨e', he', h2⟩ := List.mem_flatMap.mp h1
                  obtain ⟨h4, h5⟩ := hb e' (List.mem_of_mem_take he')
                  exact ctr_bits h2 (fun s hs => hs) h4 h5
                · obtain ⟨b', h2, rfl⟩ := List.mem_map.mp h1
                  exact bb b' (List.mem_of_mem_take h2)
            refine ⟨.ref Lt, rfl, Lt, rfl, .inr ⟨_, .inl eT7⟩, .ref qa, rfl, _, g7, ?_⟩
            rw [gv]
            refine ⟨.ref Ws, rfl, .ref C, rfl, Ws, .int e.2, rfl, gW, _, _, rfl, rfl, .ref Lt, rfl, .ref qa, rfl, Lt, _, rfl, DPut.t (k := kI b) eT7 (by rw [kI_V]; exact e3) few, some (.ref qa), putA ts b ((getA ts b).getD 0 + e.2), rfl, ?_, ?_, ?_⟩
            · rw [upd_same, emb_put]
            · have er : ((bhd m ds o e.1 (W / 2 ^ t % 2)).take (j + 1)).map (fun b => (b, e.2)) = ((bhd m ds o e.1 (W / 2 ^ t % 2)).take j).map (fun b => (b, e.2)) ++ [(b, e.2)] := by
                rw [List.take_add_one, hb1, List.map_append]
                rfl
              rw [er, ← List.append_assoc]
              exact sumrep_put mr7
            · intro z u nz y
              rw [upd_ne nz]
              exact st7 z u nz y
          · obtain ⟨y9, ts, rfl, eT7, mr7, st7⟩ := hp
            rw [List.length_map, awLen hq, List.take_length] at mr7
            have t7 : TupsStay H6 H7 := fun b ys z => st7 _ _ (ne_of z eT6 (fun y => nomatch y)) (sT _ _ z)
            have nd7 : ND P w H7 Kn xs := nd_stay (nd_same nd6 sT) (st7 _ _ nLK.symm (sT _ _ nd6.ob)) (fun b ys z => st7 _ _ (ne_of z (sT _ _ eT6) (fun y => nomatch y)) z)
            refine ⟨_, _, _, ts, xs, rfl, eT7, ?_, nd7, kn6.mono (fun q ys z => st7 _ _ (ne_of z eT6 (fun y => nomatch y)) (sT _ _ z)) t7, xl6, fun b u n1 n2 z => st7 _ _ n2 (sT _ _ (st6 b u n1 n2 z))⟩
            have e1 : ctrs m (W / 2 ^ t % 2) ds o (es.take (i + 1)) = ctrs m (W / 2 ^ t % 2) ds o (es.take i) ++ (bhd m ds o e.1 (W / 2 ^ t % 2)).map fun b => (b, e.2) := by
              unfold ctrs
              rw [List.take_add_one, he, List.flatMap_append, ← ctr_bhd]
              simp
            rw [e1]
            exact mr7
      · obtain ⟨y7, y8, y9, ts, xs, rfl, eT, mr, nd5, kn5, xl5, st⟩ := hp
        have len : (emb V.int es).length = es.length := List.length_map ..
        rw [len, List.take_length] at mr
        rw [len] at xl5
        have eW5 := st _ _ nWK nLW.symm eWL
        have stay : ∀ b u, b ≠ Ws → H5 b = some u → upd H5 Ws (.dT (emb V.int es)) b = some u := fun b u nb z => by
          rw [upd_ne nb]
          exact z
        have tS : TupsStay H5 (upd H5 Ws (.dT (emb V.int es))) := fun b ys z => stay _ _ (ne_of z eW5 (fun y => nomatch y)) z
        have s5 : Same H (upd H5 Ws (.dT (emb V.int es))) := fun b u z => by
          have nW : b ≠ Ws := ne_of_none z hWn
          exact stay _ _ nW (st b u (ne_of_none z nKH) (ne_of_none z nLH) (toL _ _ nW (s3 _ _ z)))
        refine ⟨eW5, .ref Lt, rfl, .int (W / 2 ^ t), rfl, _, 2, rfl, rfl, ⟨by decide, by decide⟩, some (.int (0 + t)), some (.ref Lt), y7, y8, y9, Lt, ts, xs, ?_, stay _ _ nLW eT, nLK, mr.nd, fun e he => ?_, fun hle => ?_, nd_stay nd5 (stay _ _ nWK.symm nd5.ob) tS, kn5.mono (fun q ys z => stay _ _ (ne_of z eW5 (fun y => nomatch y)) z) tS, by omega, nLH, s5⟩
        · rw [← div_next]
          rfl
        · obtain ⟨z', hz', hze⟩ := mr.keys e he
          rw [← hze]
          obtain ⟨e', he', h2⟩ := List.mem_flatMap.mp hz'
          obtain ⟨h4, h5⟩ := hb e' he'
          exact ctr_bits h2 (fun s hs => hs) h4 h5
        · have := lin_ctrs (m := m) (ds := ds) (o := o) (W := W / 2 ^ t) (k := n - (t + 1)) es
          rw [mr.lin, ← div_next, this, ← g (by omega)]
          have e1 : n - (t + 1) + 1 = n - t := by omega
          rw [e1]
    · obtain ⟨y5, y6, y7, y8, y9, Ws, es, xs, rfl, eW, nWK, nd, hb, g, hnd, hkn, hxl, hWn, s3⟩ := hp
      have g' := g (Nat.le_refl _)
      rw [Nat.sub_self] at g'
      refine ⟨.ref Ws, rfl, .inr (.inr (.inl ⟨rfl, .inr ⟨_, eW⟩⟩)), Ws, _, rfl, rfl, eW, fun p hp => ?_⟩
      have sp := same_new (o := valsO p Ws) hp
      refine ⟨p, Ws, _, es.map (·.2), rfl, upd_same, sp _ _ eW, ?_, ?_⟩
      · unfold emb
        rw [List.map_map, List.map_map]
        rfl
      · have e : (es.map (·.2)).sum = lin (fun c => (mat m ds o 0 (W / 2 ^ n) c : Int)) es := by
          unfold lin
          congr 1
          refine List.map_congr_left fun e _ => ?_
          show e.2 = e.2 * ((1 : Nat) : Int)
          rw [Int.natCast_one, Int.mul_one]
        rw [e, g']
        exact q _ (s3.trans sp)
/-! ### _law_word, the law -/
theorem wsum_le (t : Nat) : ∀ (m : Nat) {f : List Int → Nat}, (∀ xs, f xs ≤ 1) → wsum t m f ≤ t ^ m
  | 0, f, h => h []
  | m + 1, f, h => by
    show ((List.range t).map fun (x : Nat) => wsum t m fun r => f ((x : Int) :: r)).sum ≤ t ^ (m + 1)
    have key : ∀ l : List Nat, (l.map fun (x : Nat) => wsum t m fun r => f ((x : Int) :: r)).sum ≤ l.length * t ^ m := by
      intro l
      induction l with
      | nil => exact Nat.zero_le _
      | cons x l ih =>
        have := wsum_le t m (f := fun r => f ((x : Int) :: r)) (fun xs => h _)
        rw [List.map_cons, List.sum_cons, List.length_cons, Nat.succ_mul]
        omega
    have := key (List.range t)
    rw [List.length_range] at this
    rw [Nat.pow_succ, Nat.mul_comm]
    exact this
theorem fits_le (m w : Nat) (ds : List Deed) (o W : Int) : fits m w ds o W ≤ (2 ^ w) ^ m := wsum_le _ m fun xs => by
  split <;> omega
theorem count_map {f : List Int → Int} {W : Int} : ∀ l : List (List Int), (l.map f).count W = (l.map fun x => if f x = W then 1 else 0).sum
  | [] => rfl
  | x :: l => by
    rw [List.map_cons, List.count_cons, count_map l, List.map_cons, List.sum_cons]
    by_cases h : f x = W
    · rw [if_pos h, if_pos (by simpa using h)]
      omega
    · rw [if_neg h, if_neg (by simpa using h)]
      omega
theorem fits_count {m w : Nat} {ds : List Deed} {o W : Int} : ((allW (2 ^ w) m).map fun xs => (vals (2 ^ w) ds xs).getD o.toNat 0).count W = fits m w ds o W := by
  rw [count_map, allW_sum]
  rfl
theorem big_int {i : Int} (h : i.natAbs < 10 ^ 60) : (PyData.int i).showable = true ∧ (PyData.int i).depth ≤ 40 ∧ (PyData.int i).shown.length ≤ sizeLine := by
  refine ⟨?_, ?_, ?_⟩
  · simp only [PyData.showable, decide_eq_true_eq]
    have : i.natAbs < 2 ^ 200 := Nat.lt_trans h (by decide)
    by_cases e : i.natAbs = 0
    · rw [e]; decide
    · have := (Nat.log2_lt e).mpr this
      omega
  · simp only [PyData.depth]
    decide
  · have e := int_text_length_le10 (k := 60) (by decide) h
    simp only [PyData.shown]
    rw [PySem.ofString_length, sizeLine_eq]
    omega
theorem fits_big {m w : Nat} {ds : List Deed} {o W : Int} (m3 : m ≤ 3) (hw : w ≤ 60) : (((fits m w ds o W : Nat) : Int)).natAbs < 10 ^ 60 := by
  have h := fits_le m w ds o W
  have e : (2 ^ w) ^ m ≤ 2 ^ 180 := by
    rw [← Nat.pow_mul]
    have : w * m ≤ 60 * 3 := Nat.mul_le_mul hw m3
    exact Nat.pow_le_pow_right (by decide) (by omega)
  have e2 : (2 : Nat) ^ 180 < 10 ^ 60 := by decide
  rw [Int.natAbs_natCast]
  omega
def spWo : Sp := fun vs H Q _ => ∃ (a c R : Addr) (m n : Nat) (o : Int) (ds : List Deed), vs = [.ref a, .ref R, .int (2 ^ n)] ∧ 1 ≤ n ∧ n ≤ 60 ∧ WL H a c ∧ RowAt H R m ds o ∧ RowOk m ds o ∧ ∀ H' W, 0 ≤ W → W < 2 ^ n → WL H' a c → Kp a c H H' → Q (.int W) H'
set_option maxHeartbeats 1000000 in
theorem ok_wo {f fD fV fW : Addr} {fd fdD fdV fdW : FuncData} (F : Fun K "_law_word" "_law_word" s_law_word f fd)
    (GD : FnOk P w K mg base CX0 1 fD fdD ["well", "many"] spDraw) (kD : PySem.W.keepIn K (.ref fD) = true) (bD : Binds K fdD ["well", "many"] []) (gD : mg "_law_draw" = some (.ref fD))
    (GV : FnOk P w K mg base CX0 2 fV fdV ["row", "top", "words"] (spLvs K)) (kV : PySem.W.keepIn K (.ref fV) = true) (bV : Binds K fdV ["row", "top", "words"] []) (gV : mg "_law_values" = some (.ref fV))
    (GW : FnOk P w K mg base CX0 2 fW fdW ["well", "many", "top"] spWords) (kW : PySem.W.keepIn K (.ref fW) = true) (bW : Binds K fdW ["well", "many", "top"] []) (gW : mg "_law_words" = some (.ref fW)) :
    FnOk P w K mg base CX0 3 f fd ["well", "row", "top"] spWo := by
  refine F.ok (k := 2) sc_law_word (fun vs H Q E h => ?_) (fun cdv A outer s H vs Q E hr h => ?_)
  · obtain ⟨a, c, R, m, n, o, ds, rfl, _⟩ := h
    rfl
  · obtain ⟨a, c, R, m, n, o, ds, rfl, n1, n60, hw, hrow, hok, q⟩ := h
    have R1 := hr.mono (show 1 ≤ 2 by decide)
    refine ⟨_, pss_cons (ps_set (i := 3) sc_law_word.nd rfl (.inl rfl) (pe_call GD R1 (by rfl) gD kD bD .nil pass0 (pa_cons (pv 0) (pa_cons pe_int pa_nil))))
      (pss_cons (ps_if (pt_cmpR op_eq (pv 3) pe_int (nomark _)) (pss_one (ps_ret (pe_ix ix_list (pe_lst (pa_cons pe_int (pa_cons (pe_op op_sub (pv 2) pe_int) pa_nil))) (pe_call GD R1 (by rfl) gD kD bD .nil pass0 (pa_cons (pv 0) (pa_cons pe_int pa_nil))) (fun _ _ => rfl)))) pss_nil)
      (pss_cons (ps_if (pt_cmpR op_eq (pv 3) pe_int (nomark _)) (pss_one (ps_ret (pe_call GD R1 (by rfl) gD kD bD .nil pass0 (pa_cons (pv 0) (pa_cons (pv 2) pa_nil))))) pss_nil)
      (pss_one (ps_ret (pe_ix ix_list (pe_call GV hr (by rfl) gV kV bV .nil pass0 (pa_cons (pv 1) (pa_cons (pv 2) (pa_cons (pe_call GW hr (by rfl) gW kW bW .nil pass0 (pa_cons (pv 0) (pa_cons (pe_ix ix_tup (pv 1) pe_int (fun _ _ => rfl)) (pa_cons (pv 2) pa_nil)))) pa_nil)))) (pe_ix ix_tup (pv 1) pe_int (fun _ _ => rfl)) (fun _ _ => rfl)))))), ?_⟩
    have pp := pw_pos n
    have p2 : (2 : Int) ≤ 2 ^ n := by
      have := pw_le n1
      simpa using this
    have p80 : (2 : Int) ^ n ≤ 2 ^ 60 := by
      have h : (2 : Nat) ^ n ≤ 2 ^ 60 := Nat.pow_le_pow_right (by decide) n60
      rw [pw_cast]
      omega
    have m1 := hok.m1
    have m3 := hok.m3
    have o0 := hok.o0
    have o1 := hok.o1
    have l8 := hok.len
    refine ⟨.ref a, rfl, a, c, 4, rfl, by decide, by decide, hw, fun H1 wy wy0 wy1 w1 k1 => ?_⟩
    refine ⟨.int wy, rfl, rfl, _, rfl, ite2 (fun _ => ?_) (fun _ => ?_)⟩
    · refine ⟨.int (2 ^ n), rfl, _, _, rfl, rfl, (by show 2 ≤ sizeLine; decide), fun M hM => ?_⟩
      have sM := same_new (o := .lst [.int 0, .int (2 ^ n - 1)]) hM
      obtain ⟨nM1, nM2⟩ := w1.ne_new hM
      refine ⟨.ref a, rfl, a, c, 2, rfl, by decide, by decide, w1.same sM, fun H2 z z0 z1 w2 k2 => ?_⟩
      have hz : z = 0 ∨ z = 1 := by omega
      have eM := k2 _ _ nM1 nM2 upd_same
      have kk : Kp a c H H2 := (k1.trans (Same.kp sM)).trans k2
      rcases hz with rfl | rfl
      · exact ⟨M, _, 0, .int 0, rfl, rfl, .inl (.inl eM), rfl, q _ _ (Int.le_refl _) pp w2 kk⟩
      · exact ⟨M, _, 1, .int (2 ^ n - 1), rfl, rfl, .inl (.inl eM), rfl, q _ _ (by omega) (by omega) w2 kk⟩
    refine ⟨.int wy, rfl, rfl, _, rfl, ite2 (fun _ => ?_) (fun _ => ?_)⟩
    · exact ⟨.ref a, rfl, .int (2 ^ n), rfl, a, c, 2 ^ n, rfl, pp, by omega, w1, fun H2 z z0 z1 w2 k2 => q _ _ z0 z1 w2 (k1.trans k2)⟩
    have row1 := (k1.tups hw).row hrow
    obtain ⟨D, rs, eR, _, _⟩ := id row1
    refine ⟨.ref R, rfl, .int (2 ^ n), rfl, .ref a, rfl, .ref R, rfl, R, _, 0, .int m, rfl, rfl, SqT.of eR, row0, .int (2 ^ n), rfl, a, c, (m : Int), 2 ^ n, rfl, by omega, by omega, p2, by omega, w1, fun H2 p xs ep xl xr np1 np2 w2 k2 => ?_⟩
    have row2 := (k2.tups w1).row row1
    have xl' : xs.length = m := by omega
    refine ⟨R, p, (m : Int), o, ds, xs, n, rfl, row2, hok.deeds, by omega, .inl (.inl ep), xl, by omega, n1, xr, fun H3 L s3 nL eL => ?_⟩
    obtain ⟨D3, rs3, eR3, _, _⟩ := id ((Same.tups s3).row row2)
    have vl := vals_len (size := 2 ^ n) ds xs
    obtain ⟨v0, v1⟩ := worth_range (m := m) (ds := ds) (o := o) xl' xr o0 o1
    exact ⟨.ref R, rfl, R, _, 2, .int o, rfl, rfl, SqT.of eR3, rfl, L, _, o, _, rfl, rfl, .inl (.inl eL), atI_ints o0 (by omega), q _ _ v0 v1 (w2.same s3) ((k1.trans k2).trans (Same.kp s3))⟩
theorem wid_at {m : Nat} (h1 : 1 ≤ m) (h3 : m ≤ 3) : ∃ u : Int, atI [V.int 8, .int 4, .int 3] ((m : Int) - 1) = some (.int u) ∧ 1 ≤ u ∧ u ≤ 8 ∧ ∀ wd : Nat, (wd : Int) ≤ u → 2 ^ wd ≤ 256 ∧ ∀ j, j ≤ m → (2 ^ wd) ^ j ≤ 4096 := by
  have hm : m = 1 ∨ m = 2 ∨ m = 3 := by omega
  have pw : ∀ {wd n j k : Nat}, wd ≤ n → j ≤ k → n * k ≤ 12 → (2 ^ wd) ^ j ≤ 4096 := fun {wd n j k} h1 h2 h3 => by
    rw [← Nat.pow_mul]
    have : wd * j ≤ n * k := Nat.mul_le_mul h1 h2
    exact Nat.le_trans (Nat.pow_le_pow_right (by decide) (show wd * j ≤ 12 by omega)) (by decide)
  have p1 : ∀ {wd : Nat}, wd ≤ 8 → 2 ^ wd ≤ 256 := fun {wd} h => Nat.le_trans (Nat.pow_le_pow_right (by decide) h) (by decide)
  rcases hm with rfl | rfl | rfl
  · exact ⟨8, rfl, by decide, by decide, fun wd hw => ⟨p1 (by omega), fun j hj => pw (show wd ≤ 8 by omega) hj (by decide)⟩⟩
  · exact ⟨4, rfl, by decide, by decide, fun wd hw => ⟨p1 (by omega), fun j hj => pw (show wd ≤ 4 by omega) hj (by decide)⟩⟩
  · exact ⟨3, rfl, by decide, by decide, fun wd hw => ⟨p1 (by omega), fun j hj => pw (show wd ≤ 3 by omega) hj (by decide)⟩⟩
theorem wide_at {z y : Int} (h0 : 0 ≤ z) (h2 : z < 2) (y0 : 0 ≤ y) (y1 : y < 60) : ∃ u : Nat, atI [V.int 60, .int (1 + y)] z = some (.int (u : Int)) ∧ 1 ≤ u ∧ u ≤ 60 := by
  have hm : z = 0 ∨ z = 1 := by omega
  rcases hm with rfl | rfl
  · exact ⟨60, rfl, by decide, by decide⟩
  · refine ⟨(1 + y).toNat, ?_, by omega, by omega⟩
    have : ((1 + y).toNat : Int) = 1 + y := by omega
    rw [this]
    rfl
set_option maxHeartbeats 4000000 in
theorem law_run {fa fWe fDr fRo fLo fTo fAw fLv fHm fWo fCd : Addr} {fd fdWe fdDr fdRo fdLo fdTo fdAw fdLv fdHm fdWo fdCd : FuncData} {s : Shared} {a : Addr} {ns : List Int} {H : Hp} (F : Fun K "law" "law" s_law fa fd) (bL : Binds K fd ["script"] [])
    (GW : FnOk P w K mg base CX0 1 fWe fdWe ["script"] (spWell K)) (kW : PySem.W.keepIn K (.ref fWe) = true) (bW : Binds K fdWe ["script"] []) (gW : mg "_law_well" = some (.ref fWe))
    (GD : FnOk P w K mg base CX0 1 fDr fdDr ["well", "many"] spDraw) (kD : PySem.W.keepIn K (.ref fDr) = true) (bD : Binds K fdDr ["well", "many"] []) (gD : mg "_law_draw" = some (.ref fDr))
    (GR : FnOk P w K mg base CX0 3 fRo fdRo ["well", "many", "most"] spRow) (kR : PySem.W.keepIn K (.ref fRo) = true) (bR : Binds K fdRo ["well", "many", "most"] []) (gR : mg "_law_row" = some (.ref fRo))
    (GO : FnOk P w K mg base CX0 3 fLo fdLo ["well", "many"] spLong) (kO : PySem.W.keepIn K (.ref fLo) = true) (bO : Binds K fdLo ["well", "many"] []) (gO : mg "_law_long_row" = some (.ref fLo))
    (GT : FnOk P w K mg base CX0 1 fTo fdTo ["width"] spTop) (kT : PySem.W.keepIn K (.ref fTo) = true) (bT : Binds K fdTo ["width"] []) (gT : mg "_law_top" = some (.ref fTo))
    (GA : FnOk P w K mg base CX0 1 fAw fdAw ["many", "top"] spAw) (kA : PySem.W.keepIn K (.ref fAw) = true) (bA : Binds K fdAw ["many", "top"] []) (gA : mg "_law_all_words" = some (.ref fAw))
    (GV : FnOk P w K mg base CX0 2 fLv fdLv ["row", "top", "words"] (spLvs K)) (kV : PySem.W.keepIn K (.ref fLv) = true) (bV : Binds K fdLv ["row", "top", "words"] []) (gV : mg "_law_values" = some (.ref fLv))
    (GM : FnOk P w K mg base CX0 7 fHm fdHm ["row", "width", "word"] spHm) (kM : PySem.W.keepIn K (.ref fHm) = true) (bM : Binds K fdHm ["row", "width", "word"] []) (gM : mg "how_many" = some (.ref fHm))
    (GO2 : FnOk P w K mg base CX0 3 fWo fdWo ["well", "row", "top"] spWo) (kO2 : PySem.W.keepIn K (.ref fWo) = true) (bO2 : Binds K fdWo ["well", "row", "top"] []) (gO2 : mg "_law_word" = some (.ref fWo))
    (GC : FnOk P w K mg base CX0 2 fCd fdCd ["row", "width", "word"] spCd) (kC' : PySem.W.keepIn K (.ref fCd) = true) (bC : Binds K fdCd ["row", "width", "word"] []) (gC : mg "_law_counted" = some (.ref fCd))
    (mr : mg "range" = none) (mp : mg "repr" = none) (mn : mg "len" = none) (hlen : ns.length ≤ 63) (hbits : ∀ z ∈ ns, Builtin.Int.intBits z ≤ 1048576) (e0 : Env0 P w K mg base callerA [] s H) (hS : SqL K H a (ns.map V.int)) :
    codeAny (model P w) callerA (.call (.ref fa) ⟨[.ref a], []⟩) (CR CX0 [] P w H s (fun v _ => v = .bl true) E0) s := by
  refine fn_at (k := 10) (us := [.ref a]) (vs := [.ref a]) F sc_law ⟨rfl, by decide, by decide⟩ e0 ?_ (.cons rfl .nil) rfl (fun cdv => ?_)
  · have := bL s [.ref a] (e0.mod.kin.keeps fun b o e => (e0.bs b o e).1) rfl
    simpa using this
  have hr : Room 10 (callerA.deeper (envOfC "law" (defScope s_law) s.heap.objs.size fa cdv)) := Room.deeper (k := 10) ⟨rfl, by decide, by decide⟩ _
  have hg : (callerA.deeper (envOfC "law" (defScope s_law) s.heap.objs.size fa cdv)).guards = some [] := rfl
  have R1 := hr.mono (show 1 ≤ 10 by decide)
  have R2 := hr.mono (show 2 ≤ 10 by decide)
  have R3 := hr.mono (show 3 ≤ 10 by decide)
  have R7 := hr.mono (show 7 ≤ 10 by decide)
  refine ⟨_, pss_cons (ps_set (i := 1) sc_law.nd rfl (.inl rfl) (pe_call GW R1 (by rfl) gW kW bW .nil pass0 (pa_cons (pv 0) pa_nil)))
    (pss_cons (ps_for PassesOwn.never rfl (pi_range1 (by rfl) mr (pa_cons pe_int pa_nil)) (pg_name (i := 2) sc_law.nd rfl (.inl rfl))
      (pss_cons (ps_set (i := 3) sc_law.nd rfl (.inl rfl) (pe_cmpR op_eq (pe_call GD R1 (by rfl) gD kD bD .nil pass0 (pa_cons (pv 1) (pa_cons pe_int pa_nil))) pe_int (nomark _)))
      (pss_cons (ps_set (i := 4) sc_law.nd rfl (.inl rfl) (pe_op op_add pe_int (pe_call GD R1 (by rfl) gD kD bD .nil pass0 (pa_cons (pv 1) (pa_cons pe_int pa_nil)))))
      (pss_cons (ps_set (i := 5) sc_law.nd rfl (.inr rfl) (pe_call GR R3 (by rfl) gR kR bR .nil pass0 (pa_cons (pv 1) (pa_cons (pv 4) (pa_cons pe_int pa_nil)))))
      (pss_mid (ps_if (pt_val (pv 3)) (pss_one (ps_set (i := 5) sc_law.nd rfl (.inr rfl) (pe_call GO R3 (by rfl) gO kO bO .nil pass0 (pa_cons (pv 1) (pa_cons (pv 4) pa_nil))))) pss_nil)
      (pss_cons (ps_set (i := 6) sc_law.nd rfl (.inl rfl) (pe_op op_add pe_int (pe_call GD R1 (by rfl) gD kD bD .nil pass0 (pa_cons (pv 1) (pa_cons (pe_ix ix_list (pe_lst (pa_cons pe_int (pa_cons pe_int (pa_cons pe_int pa_nil)))) (pe_op op_sub (pv 4) pe_int) (fun _ _ => rfl)) pa_nil)))))
      (pss_cons (ps_set (i := 7) sc_law.nd rfl (.inr rfl) (pe_call GT R1 (by rfl) gT kT bT .nil pass0 (pa_cons (pv 6) pa_nil)))
      (pss_cons (ps_setLc (i := 8) (own := [("words", 11)]) (g := gName 11) (by rfl) sc_law.nd rfl rfl (sw_true rfl rfl rfl (by decide +kernel)) (pi_list (pe_call GA R1 (by rfl) gA kA bA .nil pass0 (pa_cons (pv 4) (pa_cons (pv 7) pa_nil)))) (blkOk_by (own := [("words", 11)]) (N := N_law) (sc := defScope s_law) (by decide +kernel))
        (fun _ _ _ _ _ => pg_name (i := 11) sc_law.nd rfl (Or.inl rfl)) (fun _ _ _ _ _ => pts_nil)
        (fun _ _ _ _ _ => pe_ix (r := rIxL K) ix_list (pe_call GV R2 (by rfl) gV kV bV .nil pass0 (pa_cons (pv 5) (pa_cons (pv 7) (pa_cons (pv 11) pa_nil)))) (pe_ix (r := rIxT K) ix_tup (pv 5) pe_int (fun _ _ => rfl)) (fun _ _ => rfl)))
      (pss_cons (ps_for PassesOwn.never rfl (pi_list (pe_lst (pa_cons (pe_call GO2 R3 (by rfl) gO2 kO2 bO2 .nil pass0 (pa_cons (pv 1) (pa_cons (pv 5) (pa_cons (pv 7) pa_nil)))) (pa_cons (pe_call GO2 R3 (by rfl) gO2 kO2 bO2 .nil pass0 (pa_cons (pv 1) (pa_cons (pv 5) (pa_cons (pv 7) pa_nil)))) pa_nil)))) (pg_name (i := 9) sc_law.nd rfl (.inl rfl))
        (pss_one (ps_if (pt_cmpR op_ne (pe_callB (call_repr hg hr.units) (by rfl) mp (by decide +kernel) (pa_cons (pe_call GM R7 (by rfl) gM kM bM .nil pass0 (pa_cons (pv 5) (pa_cons (pv 6) (pa_cons (pv 9) pa_nil)))) pa_nil)) (pe_callB (call_repr hg hr.units) (by rfl) mp (by decide +kernel) (pa_cons (pe_bm PySem.F.plainAttrs_list PySem.F.slot_list_count PySem.F.type_list_count mt_lcount (pv 8) (pa_cons (pv 9) pa_nil)) pa_nil)) (nomark _)) (pss_one (ps_ret pe_bl)) pss_nil)))
      (pss_cons (ps_set (i := 10) sc_law.nd rfl (.inl rfl) (pe_ix ix_list (pe_lst (pa_cons pe_int (pa_cons (pe_op op_add pe_int (pe_call GD R1 (by rfl) gD kD bD .nil pass0 (pa_cons (pv 1) (pa_cons pe_int pa_nil)))) pa_nil))) (pe_call GD R1 (by rfl) gD kD bD .nil pass0 (pa_cons (pv 1) (pa_cons pe_int pa_nil))) (fun _ _ => rfl)))
      (pss_cons (ps_set (i := 9) sc_law.nd rfl (.inl rfl) (pe_call GO2 R3 (by rfl) gO2 kO2 bO2 .nil pass0 (pa_cons (pv 1) (pa_cons (pv 5) (pa_cons (pe_call GT R1 (by rfl) gT kT bT .nil pass0 (pa_cons (pv 10) pa_nil)) pa_nil)))))
      (pss_one (ps_if (pt_cmpR op_lt (pe_callB call_len_seq (by rfl) mn PySem.boot_len (pa_cons (pe_ix ix_tup (pv 5) pe_int (fun _ _ => rfl)) pa_nil)) pe_int (nomark _))
        (pss_one (ps_if (pt_cmpR op_ne (pe_callB (call_repr hg hr.units) (by rfl) mp (by decide +kernel) (pa_cons (pe_call GM R7 (by rfl) gM kM bM .nil pass0 (pa_cons (pv 5) (pa_cons (pv 10) (pa_cons (pv 9) pa_nil)))) pa_nil)) (pe_callB (call_repr hg hr.units) (by rfl) mp (by decide +kernel) (pa_cons (pe_call GC R2 (by rfl) gC kC' bC .nil pass0 (pa_cons (pv 5) (pa_cons (pv 10) (pa_cons (pv 9) pa_nil)))) pa_nil)) (nomark _)) (pss_one (ps_ret pe_bl)) pss_nil)) pss_nil)))))))))))))
    (pss_one (ps_ret pe_bl))), ?_⟩
  refine ⟨.ref a, rfl, a, ns, rfl, hS, hlen, hbits, fun H1 p c s1 hp hc w1 => ?_⟩
  refine ⟨4, rfl, by decide, by decide, for_range (lo := 0) (n := 4) (fun i σ H3 => (∃ y2 y3 y4 y5 y6 y7 y8 y9 y10, σ = [some (.ref a), some (.ref p), y2, y3, y4, y5, y6, y7, y8, y9, y10, none]) ∧ WL H3 p c) ⟨⟨none, none, none, none, none, none, none, none, none, rfl⟩, w1⟩ (fun i σ H3 hi hp => ?_) (fun σ H3 hp => rfl)⟩
  obtain ⟨⟨y2, y3, y4, y5, y6, y7, y8, y9, y10, rfl⟩, w3⟩ := hp
  refine ⟨.ref p, rfl, p, c, 2, rfl, by decide, by decide, w3, fun H4 za za0 za1 w4 k4 => ⟨rfl, ?_⟩⟩
  obtain ⟨gb', hgb⟩ : ∃ gb : Bool, gb = decide (V.int za = V.int 0) := ⟨_, rfl⟩
  rw [← hgb]
  refine ⟨.ref p, rfl, p, c, 3, rfl, by decide, by decide, w4, fun H6 zm zm0 zm1 w6 k6 => ⟨1, zm, rfl, rfl, ?_⟩⟩
  obtain ⟨m, hm⟩ : ∃ m : Nat, 1 + zm = (m : Int) := ⟨(1 + zm).toNat, by omega⟩
  have m1 : 1 ≤ m := by omega
  have m3 : m ≤ 3 := by omega
  show gName 4 (.int (1 + zm)) _ _ _
  rw [hm]
  refine ⟨.ref p, rfl, .int (m : Int), rfl, p, c, (m : Int), 5, rfl, by omega, by omega, by decide, by decide, w6, fun H7 Ra dsa oa hrowa hoka _ w7 k7 => ?_⟩
  refine ⟨fun σ H' => ∃ R ds o, σ = [some (.ref a), some (.ref p), some (.int (0 + (i : Int))), some (.bl gb'), some (.int (m : Int)), some (.ref R), y6, y7, y8, y9, y10, none] ∧ RowAt H' R (m : Int) ds o ∧ RowOk (m : Int) ds o ∧ WL H' p c, ?_, ?_⟩
  · refine ⟨_, rfl, _, rfl, ite2 (fun _ => ?_) (fun _ => ⟨Ra, dsa, oa, rfl, hrowa, hoka, w7⟩)⟩
    exact ⟨.ref p, rfl, .int (m : Int), rfl, p, c, (m : Int), rfl, by omega, by omega, w7, fun H8 Rb dsb obb hrowb hokb w8 k8 => ⟨Rb, dsb, obb, rfl, hrowb, hokb, w8⟩⟩
  rintro σ8 H8 ⟨R, ds, o, rfl, hrow, hok, w8⟩
  obtain ⟨u, hat, u1, u8, hwid⟩ := wid_at m1 m3
  refine ⟨.ref p, rfl, (by show 3 ≤ sizeLine; decide), fun M hM => ?_⟩
  have sM := same_new (o := .lst [.int 8, .int 4, .int 3]) hM
  refine ⟨.int (m : Int), rfl, (m : Int), 1, rfl, rfl, M, _, (m : Int) - 1, .int u, rfl, rfl, .inl (.inl upd_same), hat, p, c, u, rfl, by omega, by omega, w8.same sM, fun H12 zw zw0 zw1 w12 k12 => ⟨1, zw, rfl, rfl, ?_⟩⟩
  obtain ⟨wd, hwd⟩ : ∃ wd : Nat, 1 + zw = (wd : Int) := ⟨(1 + zw).toNat, by omega⟩
  have wd1 : 1 ≤ wd := by omega
  have wd8 : wd ≤ 8 := by omega
  obtain ⟨t256, tj⟩ := hwid wd (by omega)
  show gName 6 (.int (1 + zw)) _ _ _
  rw [hwd]
  have t12 := (Same.tups sM).trans (k12.tups (w8.same sM))
  have hA12 := t12.row hrow
  refine ⟨.int (wd : Int), rfl, wd, rfl, by omega, ?_⟩
  refine ⟨.int (m : Int), rfl, .int (2 ^ wd), rfl, m, 2 ^ wd, by rw [pw_cast]; rfl, m3, t256, tj, fun H13 L as s13 hL13 eL has => ?_⟩
  have la := awLen has
  have hal := allW_len (2 ^ wd) m
  have tm := tj m (Nat.le_refl _)
  have hA13 := (Same.tups s13).row hA12
  have w13 := w12.same s13
  have o0 := hok.o0
  have o1 := hok.o1
  have l8 := hok.len
  refine ⟨L, rfl, ⟨_, .inl (.inl eL)⟩, fun Fd hFd => ?_⟩
  refine lc_list (K := K) (a := L) (xs := as.map V.ref) (fun j H14 => H14 Fd = some (.lst ((((allW (2 ^ wd) m).take j).map fun xs => (vals (2 ^ wd) ds xs).getD o.toNat 0).map V.int)) ∧ Same H13 H14) ⟨upd_same, same_new hFd⟩ (fun j H14 _ h14 => .inl (.inl (h14.2 _ _ eL))) (fun j x H14 hx h14 => ?_) (fun H14 h14 => ?_)
  · obtain ⟨eF, s14⟩ := h14
    rw [List.getElem?_map] at hx
    obtain ⟨wa, hwa, rfl⟩ := Option.map_eq_some_iff.mp hx
    obtain ⟨xs, hx1, hx2⟩ := awGet has hwa
    have hx2' : H13 wa = some (.lst (xs.map V.int)) := hx2
    obtain ⟨xl, xr⟩ := allW_ok (2 ^ wd) m xs (List.mem_of_getElem? hx1)
    have jl := (List.getElem?_eq_some_iff.mp hx1).1
    rw [hal] at jl
    have hA := (Same.tups s14).row hA13
    refine ⟨rfl, .ref R, rfl, .int (2 ^ wd), rfl, .ref wa, rfl, R, wa, (m : Int), o, ds, xs, wd, rfl, hA, hok.deeds, by omega, .inl (.inl (s14 _ _ hx2')), by omega, by omega, wd1, xs_cast rfl xr, fun H15 V1 s15 nV1 eV1 => ?_⟩
    have v1l := vals_len (size := 2 ^ wd) ds xs
    obtain ⟨Da, rsa, eRa, _, _⟩ := id ((Same.tups s15).row hA)
    refine ⟨.ref R, rfl, R, _, 2, .int o, rfl, rfl, SqT.of eRa, rfl, V1, _, o, _, rfl, rfl, .inl (.inl eV1), atI_ints o0 (by omega), _, s15 _ _ eF, ?_, ?_, ?_⟩
    · rw [List.length_map, List.length_map, List.length_take, sizeLine_eq]
      omega
    · rw [upd_same, List.take_add_one, hx1, List.map_append, List.map_append]
      rfl
    · intro b u e
      rw [upd_ne (ne_of_none e hFd)]
      exact s15 _ _ (s14 _ _ e)
  obtain ⟨eF, s14⟩ := h14
  rw [List.length_map, la, List.take_length] at eF
  have hA14 := (Same.tups s14).row hA13
  have w14 := w13.same s14
  obtain ⟨nF1, nF2⟩ := w13.ne_new hFd
  have p60 : wd ≤ 60 := by omega
  refine ⟨.ref p, rfl, .ref R, rfl, .int (2 ^ wd), rfl, p, c, R, m, wd, o, ds, rfl, wd1, p60, w14, hA14, hok, fun H15 Wa Wa0 Wa1 w15 k15 => ?_⟩
  have hA15 := (k15.tups w14).row hA14
  have eF15 := k15 _ _ nF1 nF2 eF
  refine ⟨.ref p, rfl, .ref R, rfl, .int (2 ^ wd), rfl, p, c, R, m, wd, o, ds, rfl, wd1, p60, w15, hA15, hok, fun H16 Wb Wb0 Wb1 w16 k16 => ⟨(by show 2 ≤ sizeLine; decide), fun G hG => ?_⟩⟩
  have sG := same_new (o := .lst [.int Wa, .int Wb]) hG
  obtain ⟨H17, hH17⟩ : ∃ H17, H17 = upd H16 G (.lst [.int Wa, .int Wb]) := ⟨_, rfl⟩
  have eG : H17 G = some (.lst [.int Wa, .int Wb]) := by rw [hH17]; exact upd_same
  rw [← hH17] at sG ⊢
  clear hH17
  have hA17 := (Same.tups sG).row ((k16.tups w15).row hA15)
  have eF17 := sG _ _ (k16 _ _ nF1 nF2 eF15)
  have w17 := w16.same sG
  refine ⟨G, rfl, ⟨_, .inl (.inl eG)⟩, for_list (K := K) (a := G) (xs := [.int Wa, .int Wb]) (fun j σ H18 => ∃ y9, σ = [some (.ref a), some (.ref p), some (.int (0 + (i : Int))), some (.bl gb'), some (.int (m : Int)), some (.ref R), some (.int (wd : Int)), some (.int (2 ^ wd)), some (.ref Fd), y9, y10, none] ∧ Same H17 H18) ⟨y9, rfl, Same.refl _⟩ (fun j σ H18 _ h18 => ?_) (fun j x σ H18 hx h18 => ?_) (fun σ H18 h18 => ?_)⟩
  · obtain ⟨_, _, s18⟩ := h18
    exact .inl (.inl (s18 _ _ eG))
  · obtain ⟨y9, rfl, s18⟩ := h18
    obtain ⟨W, rfl, W0, W1⟩ : ∃ W : Int, x = .int W ∧ 0 ≤ W ∧ W < 2 ^ wd := by
      match j, hx with
      | 0, hx => exact ⟨Wa, (Option.some.inj hx).symm, Wa0, Wa1⟩
      | 1, hx => exact ⟨Wb, (Option.some.inj hx).symm, Wb0, Wb1⟩
      | j + 2, hx => cases hx
    refine ⟨.ref R, rfl, .int (wd : Int), rfl, .int W, rfl, R, m, wd, W, o, ds, rfl, p60, W0, W1, (Same.tups s18).row hA17, hok, fun H19 s19 => ?_⟩
    obtain ⟨b1, b2, b3⟩ := big_int (fits_big (m := m) (w := wd) (ds := ds) (o := o) (W := W) m3 p60)
    have eF19 := s19 _ _ (s18 _ _ eF17)
    refine ⟨_, _, rfl, .inl (Rz.int H19 _), b1, b2, b3, .ref Fd, rfl, .inl ⟨rfl, _, .inl (.inl eF19)⟩, .int W, rfl, Fd, _, W, rfl, rfl, .inl (.inl eF19), ?_⟩
    rw [fits_count]
    refine ⟨_, _, rfl, .inl (Rz.int H19 _), b1, b2, b3, ⟨rfl, _, rfl, iteNS rfl ?_⟩⟩
    exact ⟨_, rfl, s18.trans s19⟩
  obtain ⟨y9', rfl, s18⟩ := h18
  have w18 := w17.same s18
  have hA18 := (Same.tups s18).row hA17
  refine ⟨.ref p, rfl, p, c, 60, rfl, by decide, by decide, w18, fun H19 y y0 y1 w19 k19 => ⟨1, y, rfl, rfl, (by show 2 ≤ sizeLine; decide), fun G2 hG2 => ?_⟩⟩
  have sG2 := same_new (o := .lst [.int 60, .int (1 + y)]) hG2
  obtain ⟨nG1, nG2⟩ := w19.ne_new hG2
  refine ⟨.ref p, rfl, p, c, 2, rfl, by decide, by decide, w19.same sG2, fun H20 z z0 z1 w20 k20 => ?_⟩
  obtain ⟨wi, hwi, wi1, wi60⟩ := wide_at z0 z1 y0 y1
  refine ⟨G2, _, z, .int (wi : Int), rfl, rfl, .inl (.inl (k20 _ _ nG1 nG2 upd_same)), hwi, ?_⟩
  have hA20 := (k20.tups (w19.same sG2)).row ((Same.tups sG2).row ((k19.tups w18).row hA18))
  refine ⟨.ref p, rfl, .ref R, rfl, .int (wi : Int), rfl, wi, rfl, by omega, p, c, R, m, wi, o, ds, rfl, wi1, wi60, w20, hA20, hok, fun H21 W W0 W1 w21 k21 => ?_⟩
  have hA21 := (k21.tups w20).row hA20
  obtain ⟨D, rs, eR21, eD21, _⟩ := id hA21
  refine ⟨.ref R, rfl, R, _, 1, .ref D, rfl, rfl, SqT.of eR21, rfl, D, _, rfl, .inr (SqT.of eD21), _, 5, rfl, rfl, _, rfl, ite2 (fun _ => ?_) (fun _ => ⟨⟨_, _, _, _, _, _, _, _, _, rfl⟩, w21⟩)⟩
  refine ⟨.ref R, rfl, .int (wi : Int), rfl, .int W, rfl, R, m, wi, W, o, ds, rfl, wi60, W0, W1, hA21, hok, fun H22 s22 => ?_⟩
  obtain ⟨b1, b2, b3⟩ := big_int (fits_big (m := m) (w := wi) (ds := ds) (o := o) (W := W) m3 wi60)
  refine ⟨_, _, rfl, .inl (Rz.int H22 _), b1, b2, b3, .ref R, rfl, .int (wi : Int), rfl, .int W, rfl, R, m, wi, W, o, ds, rfl, wi60, W0, (Same.tups s22).row hA21, hok, fun H23 s23 => ?_⟩
  rw [mat_fits hok W0 W1]
  refine ⟨_, _, rfl, .inl (Rz.int H23 _), b1, b2, b3, ⟨rfl, _, rfl, iteNS rfl ?_⟩⟩
  exact ⟨⟨_, _, _, _, _, _, _, _, _, rfl⟩, w21.same (s22.trans s23)⟩
/-! ### what the top has written -/
theorem all_mk {l : PySem.W.OpenLaw} {w : World} {K : PySem.W.Frag} {h : Heap} {mg : Str → Option Value} {fa : Addr} (X : K.In h) (G : h.Ns mainGlobals mg) (hfa : mg "law" = some (.ref fa))
    {f0 : Addr} {od0 an0 : Option Addr} {sl0 : Array (Option Value)} {oc0 kV0 dc0 pm0 cd0 ct0 : Value}
    {f1 : Addr} {od1 an1 : Option Addr} {sl1 : Array (Option Value)} {oc1 kV1 dc1 pm1 cd1 ct1 : Value}
    {f2 : Addr} {od2 an2 : Option Addr} {sl2 : Array (Option Value)} {oc2 kV2 dc2 pm2 cd2 ct2 : Value}
    {f3 : Addr} {od3 an3 : Option Addr} {sl3 : Array (Option Value)} {oc3 kV3 dc3 pm3 cd3 ct3 : Value}
    {f4 : Addr} {od4 an4 : Option Addr} {sl4 : Array (Option Value)} {oc4 kV4 dc4 pm4 cd4 ct4 : Value}
    {f5 : Addr} {od5 an5 : Option Addr} {sl5 : Array (Option Value)} {oc5 kV5 dc5 pm5 cd5 ct5 : Value}
    {f6 : Addr} {od6 an6 : Option Addr} {sl6 : Array (Option Value)} {oc6 kV6 dc6 pm6 cd6 ct6 : Value}
    {f7 : Addr} {od7 an7 : Option Addr} {sl7 : Array (Option Value)} {oc7 kV7 dc7 pm7 cd7 ct7 : Value}
    {f8 : Addr} {od8 an8 : Option Addr} {sl8 : Array (Option Value)} {oc8 kV8 dc8 pm8 cd8 ct8 : Value}
    {f9 : Addr} {od9 an9 : Option Addr} {sl9 : Array (Option Value)} {oc9 kV9 dc9 pm9 cd9 ct9 : Value}
    {f10 : Addr} {od10 an10 : Option Addr} {sl10 : Array (Option Value)} {oc10 kV10 dc10 pm10 cd10 ct10 : Value}
    {f11 : Addr} {od11 an11 : Option Addr} {sl11 : Array (Option Value)} {oc11 kV11 dc11 pm11 cd11 ct11 : Value}
    {f12 : Addr} {od12 an12 : Option Addr} {sl12 : Array (Option Value)} {oc12 kV12 dc12 pm12 cd12 ct12 : Value}
    {f13 : Addr} {od13 an13 : Option Addr} {sl13 : Array (Option Value)} {oc13 kV13 dc13 pm13 cd13 ct13 : Value}
    {f14 : Addr} {od14 an14 : Option Addr} {sl14 : Array (Option Value)} {oc14 kV14 dc14 pm14 cd14 ct14 : Value}
    {f15 : Addr} {od15 an15 : Option Addr} {sl15 : Array (Option Value)} {oc15 kV15 dc15 pm15 cd15 ct15 : Value}
    {f16 : Addr} {od16 an16 : Option Addr} {sl16 : Array (Option Value)} {oc16 kV16 dc16 pm16 cd16 ct16 : Value}
    {f17 : Addr} {od17 an17 : Option Addr} {sl17 : Array (Option Value)} {oc17 kV17 dc17 pm17 cd17 ct17 : Value}
    {f18 : Addr} {od18 an18 : Option Addr} {sl18 : Array (Option Value)} {oc18 kV18 dc18 pm18 cd18 ct18 : Value}
    {f19 : Addr} {od19 an19 : Option Addr} {sl19 : Array (Option Value)} {oc19 kV19 dc19 pm19 cd19 ct19 : Value}
    {f20 : Addr} {od20 an20 : Option Addr} {sl20 : Array (Option Value)} {oc20 kV20 dc20 pm20 cd20 ct20 : Value}
    {f21 : Addr} {od21 an21 : Option Addr} {sl21 : Array (Option Value)} {oc21 kV21 dc21 pm21 cd21 ct21 : Value}
    {f22 : Addr} {od22 an22 : Option Addr} {sl22 : Array (Option Value)} {oc22 kV22 dc22 pm22 cd22 ct22 : Value}
    {f23 : Addr} {od23 an23 : Option Addr} {sl23 : Array (Option Value)} {oc23 kV23 dc23 pm23 cd23 ct23 : Value}
    {f24 : Addr} {od24 an24 : Option Addr} {sl24 : Array (Option Value)} {oc24 kV24 dc24 pm24 cd24 ct24 : Value}
    {f25 : Addr} {od25 an25 : Option Addr} {sl25 : Array (Option Value)} {oc25 kV25 dc25 pm25 cd25 ct25 : Value}
    {f26 : Addr} {od26 an26 : Option Addr} {sl26 : Array (Option Value)} {oc26 kV26 dc26 pm26 cd26 ct26 : Value}
    {f27 : Addr} {od27 an27 : Option Addr} {sl27 : Array (Option Value)} {oc27 kV27 dc27 pm27 cd27 ct27 : Value}
    (a0 : PySem.W.nsIn K mainGlobals "all_bits" = some (some (.ref f0)))
    (l0 : K.lookup f0 = some ⟨oc0, od0, .func (PySem.W.fnOf "all_bits" "all_bits" (defArgs s_all_bits) (defBody s_all_bits) (defScope s_all_bits) .none kV0 dc0 pm0 an0 cd0 ct0), sl0⟩)
    (c0 : PySem.W.codeIn K cd0 "all_bits" = true) (k0 : PySem.W.keepIn K (.ref f0) = true)
    (a1 : PySem.W.nsIn K mainGlobals "first_carry" = some (some (.ref f1)))
    (l1 : K.lookup f1 = some ⟨oc1, od1, .func (PySem.W.fnOf "first_carry" "first_carry" (defArgs s_first_carry) (defBody s_first_carry) (defScope s_first_carry) .none kV1 dc1 pm1 an1 cd1 ct1), sl1⟩)
    (c1 : PySem.W.codeIn K cd1 "first_carry" = true) (k1 : PySem.W.keepIn K (.ref f1) = true)
    (a2 : PySem.W.nsIn K mainGlobals "deed_bit" = some (some (.ref f2)))
    (l2 : K.lookup f2 = some ⟨oc2, od2, .func (PySem.W.fnOf "deed_bit" "deed_bit" (defArgs s_deed_bit) (defBody s_deed_bit) (defScope s_deed_bit) .none kV2 dc2 pm2 an2 cd2 ct2), sl2⟩)
    (c2 : PySem.W.codeIn K cd2 "deed_bit" = true) (k2 : PySem.W.keepIn K (.ref f2) = true)
    (a3 : PySem.W.nsIn K mainGlobals "bits_of" = some (some (.ref f3)))
    (l3 : K.lookup f3 = some ⟨oc3, od3, .func (PySem.W.fnOf "bits_of" "bits_of" (defArgs s_bits_of) (defBody s_bits_of) (defScope s_bits_of) .none kV3 dc3 pm3 an3 cd3 ct3), sl3⟩)
    (c3 : PySem.W.codeIn K cd3 "bits_of" = true) (k3 : PySem.W.keepIn K (.ref f3) = true)
    (a4 : PySem.W.nsIn K mainGlobals "two_or_more" = some (some (.ref f4)))
    (l4 : K.lookup f4 = some ⟨oc4, od4, .func (PySem.W.fnOf "two_or_more" "two_or_more" (defArgs s_two_or_more) (defBody s_two_or_more) (defScope s_two_or_more) .none kV4 dc4 pm4 an4 cd4 ct4), sl4⟩)
    (c4 : PySem.W.codeIn K cd4 "two_or_more" = true) (k4 : PySem.W.keepIn K (.ref f4) = true)
    (a5 : PySem.W.nsIn K mainGlobals "deed_carry" = some (some (.ref f5)))
    (l5 : K.lookup f5 = some ⟨oc5, od5, .func (PySem.W.fnOf "deed_carry" "deed_carry" (defArgs s_deed_carry) (defBody s_deed_carry) (defScope s_deed_carry) .none kV5 dc5 pm5 an5 cd5 ct5), sl5⟩)
    (c5 : PySem.W.codeIn K cd5 "deed_carry" = true) (k5 : PySem.W.keepIn K (.ref f5) = true)
    (a6 : PySem.W.nsIn K mainGlobals "carry_behind" = some (some (.ref f6)))
    (l6 : K.lookup f6 = some ⟨oc6, od6, .func (PySem.W.fnOf "carry_behind" "carry_behind" (defArgs s_carry_behind) (defBody s_carry_behind) (defScope s_carry_behind) .none kV6 dc6 pm6 an6 cd6 ct6), sl6⟩)
    (c6 : PySem.W.codeIn K cd6 "carry_behind" = true) (k6 : PySem.W.keepIn K (.ref f6) = true)
    (a7 : PySem.W.nsIn K mainGlobals "steps" = some (some (.ref f7)))
    (l7 : K.lookup f7 = some ⟨oc7, od7, .func (PySem.W.fnOf "steps" "steps" (defArgs s_steps) (defBody s_steps) (defScope s_steps) .none kV7 dc7 pm7 an7 cd7 ct7), sl7⟩)
    (c7 : PySem.W.codeIn K cd7 "steps" = true) (k7 : PySem.W.keepIn K (.ref f7) = true)
    (a8 : PySem.W.nsIn K mainGlobals "kept_steps" = some (some (.ref f8)))
    (l8 : K.lookup f8 = some ⟨oc8, od8, .func (PySem.W.fnOf "kept_steps" "kept_steps" (defArgs s_kept_steps) (defBody s_kept_steps) (defScope s_kept_steps) .none kV8 dc8 pm8 an8 cd8 ct8), sl8⟩)
    (c8 : PySem.W.codeIn K cd8 "kept_steps" = true) (k8 : PySem.W.keepIn K (.ref f8) = true)
    (a9 : PySem.W.nsIn K mainGlobals "counted_on" = some (some (.ref f9)))
    (l9 : K.lookup f9 = some ⟨oc9, od9, .func (PySem.W.fnOf "counted_on" "counted_on" (defArgs s_counted_on) (defBody s_counted_on) (defScope s_counted_on) .none kV9 dc9 pm9 an9 cd9 ct9), sl9⟩)
    (c9 : PySem.W.codeIn K cd9 "counted_on" = true) (k9 : PySem.W.keepIn K (.ref f9) = true)
    (a10 : PySem.W.nsIn K mainGlobals "how_many" = some (some (.ref f10)))
    (l10 : K.lookup f10 = some ⟨oc10, od10, .func (PySem.W.fnOf "how_many" "how_many" (defArgs s_how_many) (defBody s_how_many) (defScope s_how_many) .none kV10 dc10 pm10 an10 cd10 ct10), sl10⟩)
    (c10 : PySem.W.codeIn K cd10 "how_many" = true) (k10 : PySem.W.keepIn K (.ref f10) = true)
    (a11 : PySem.W.nsIn K mainGlobals "_law_well" = some (some (.ref f11)))
    (l11 : K.lookup f11 = some ⟨oc11, od11, .func (PySem.W.fnOf "_law_well" "_law_well" (defArgs s_law_well) (defBody s_law_well) (defScope s_law_well) .none kV11 dc11 pm11 an11 cd11 ct11), sl11⟩)
    (c11 : PySem.W.codeIn K cd11 "_law_well" = true) (k11 : PySem.W.keepIn K (.ref f11) = true)
    (a12 : PySem.W.nsIn K mainGlobals "_law_draw" = some (some (.ref f12)))
    (l12 : K.lookup f12 = some ⟨oc12, od12, .func (PySem.W.fnOf "_law_draw" "_law_draw" (defArgs s_law_draw) (defBody s_law_draw) (defScope s_law_draw) .none kV12 dc12 pm12 an12 cd12 ct12), sl12⟩)
    (c12 : PySem.W.codeIn K cd12 "_law_draw" = true) (k12 : PySem.W.keepIn K (.ref f12) = true)
    (a13 : PySem.W.nsIn K mainGlobals "_law_first_words" = some (some (.ref f13)))
    (l13 : K.lookup f13 = some ⟨oc13, od13, .func (PySem.W.fnOf "_law_first_words" "_law_first_words" (defArgs s_law_first_words) (defBody s_law_first_words) (defScope s_law_first_words) .none kV13 dc13 pm13 an13 cd13 ct13), sl13⟩)
    (c13 : PySem.W.codeIn K cd13 "_law_first_words" = true) (k13 : PySem.W.keepIn K (.ref f13) = true)
    (a14 : PySem.W.nsIn K mainGlobals "_law_deed" = some (some (.ref f14)))
    (l14 : K.lookup f14 = some ⟨oc14, od14, .func (PySem.W.fnOf "_law_deed" "_law_deed" (defArgs s_law_deed) (defBody s_law_deed) (defScope s_law_deed) .none kV14 dc14 pm14 an14 cd14 ct14), sl14⟩)
    (c14 : PySem.W.codeIn K cd14 "_law_deed" = true) (k14 : PySem.W.keepIn K (.ref f14) = true)
    (a15 : PySem.W.nsIn K mainGlobals "_law_row" = some (some (.ref f15)))
    (l15 : K.lookup f15 = some ⟨oc15, od15, .func (PySem.W.fnOf "_law_row" "_law_row" (defArgs s_law_row) (defBody s_law_row) (defScope s_law_row) .none kV15 dc15 pm15 an15 cd15 ct15), sl15⟩)
    (c15 : PySem.W.codeIn K cd15 "_law_row" = true) (k15 : PySem.W.keepIn K (.ref f15) = true)
    (a16 : PySem.W.nsIn K mainGlobals "_law_top" = some (some (.ref f16)))
    (l16 : K.lookup f16 = some ⟨oc16, od16, .func (PySem.W.fnOf "_law_top" "_law_top" (defArgs s_law_top) (defBody s_law_top) (defScope s_law_top) .none kV16 dc16 pm16 an16 cd16 ct16), sl16⟩)
    (c16 : PySem.W.codeIn K cd16 "_law_top" = true) (k16 : PySem.W.keepIn K (.ref f16) = true)
    (a17 : PySem.W.nsIn K mainGlobals "_law_value" = some (some (.ref f17)))
    (l17 : K.lookup f17 = some ⟨oc17, od17, .func (PySem.W.fnOf "_law_value" "_law_value" (defArgs s_law_value) (defBody s_law_value) (defScope s_law_value) .none kV17 dc17 pm17 an17 cd17 ct17), sl17⟩)
    (c17 : PySem.W.codeIn K cd17 "_law_value" = true) (k17 : PySem.W.keepIn K (.ref f17) = true)
    (a18 : PySem.W.nsIn K mainGlobals "_law_values" = some (some (.ref f18)))
    (l18 : K.lookup f18 = some ⟨oc18, od18, .func (PySem.W.fnOf "_law_values" "_law_values" (defArgs s_law_values) (defBody s_law_values) (defScope s_law_values) .none kV18 dc18 pm18 an18 cd18 ct18), sl18⟩)
    (c18 : PySem.W.codeIn K cd18 "_law_values" = true) (k18 : PySem.W.keepIn K (.ref f18) = true)
    (a19 : PySem.W.nsIn K mainGlobals "_law_words" = some (some (.ref f19)))
    (l19 : K.lookup f19 = some ⟨oc19, od19, .func (PySem.W.fnOf "_law_words" "_law_words" (defArgs s_law_words) (defBody s_law_words) (defScope s_law_words) .none kV19 dc19 pm19 an19 cd19 ct19), sl19⟩)
    (c19 : PySem.W.codeIn K cd19 "_law_words" = true) (k19 : PySem.W.keepIn K (.ref f19) = true)
    (a20 : PySem.W.nsIn K mainGlobals "_law_all_words" = some (some (.ref f20)))
    (l20 : K.lookup f20 = some ⟨oc20, od20, .func (PySem.W.fnOf "_law_all_words" "_law_all_words" (defArgs s_law_all_words) (defBody s_law_all_words) (defScope s_law_all_words) .none kV20 dc20 pm20 an20 cd20 ct20), sl20⟩)
    (c20 : PySem.W.codeIn K cd20 "_law_all_words" = true) (k20 : PySem.W.keepIn K (.ref f20) = true)
    (a21 : PySem.W.nsIn K mainGlobals "_law_step" = some (some (.ref f21)))
    (l21 : K.lookup f21 = some ⟨oc21, od21, .func (PySem.W.fnOf "_law_step" "_law_step" (defArgs s_law_step) (defBody s_law_step) (defScope s_law_step) .none kV21 dc21 pm21 an21 cd21 ct21), sl21⟩)
    (c21 : PySem.W.codeIn K cd21 "_law_step" = true) (k21 : PySem.W.keepIn K (.ref f21) = true)
    (a22 : PySem.W.nsIn K mainGlobals "_law_first" = some (some (.ref f22)))
    (l22 : K.lookup f22 = some ⟨oc22, od22, .func (PySem.W.fnOf "_law_first" "_law_first" (defArgs s_law_first) (defBody s_law_first) (defScope s_law_first) .none kV22 dc22 pm22 an22 cd22 ct22), sl22⟩)
    (c22 : PySem.W.codeIn K cd22 "_law_first" = true) (k22 : PySem.W.keepIn K (.ref f22) = true)
    (a23 : PySem.W.nsIn K mainGlobals "_law_choices" = some (some (.ref f23)))
    (l23 : K.lookup f23 = some ⟨oc23, od23, .func (PySem.W.fnOf "_law_choices" "_law_choices" (defArgs s_law_choices) (defBody s_law_choices) (defScope s_law_choices) .none kV23 dc23 pm23 an23 cd23 ct23), sl23⟩)
    (c23 : PySem.W.codeIn K cd23 "_law_choices" = true) (k23 : PySem.W.keepIn K (.ref f23) = true)
    (a24 : PySem.W.nsIn K mainGlobals "_law_long_row" = some (some (.ref f24)))
    (l24 : K.lookup f24 = some ⟨oc24, od24, .func (PySem.W.fnOf "_law_long_row" "_law_long_row" (defArgs s_law_long_row) (defBody s_law_long_row) (defScope s_law_long_row) .none kV24 dc24 pm24 an24 cd24 ct24), sl24⟩)
    (c24 : PySem.W.codeIn K cd24 "_law_long_row" = true) (k24 : PySem.W.keepIn K (.ref f24) = true)
    (a25 : PySem.W.nsIn K mainGlobals "_law_word" = some (some (.ref f25)))
    (l25 : K.lookup f25 = some ⟨oc25, od25, .func (PySem.W.fnOf "_law_word" "_law_word" (defArgs s_law_word) (defBody s_law_word) (defScope s_law_word) .none kV25 dc25 pm25 an25 cd25 ct25), sl25⟩)
    (c25 : PySem.W.codeIn K cd25 "_law_word" = true) (k25 : PySem.W.keepIn K (.ref f25) = true)
    (a26 : PySem.W.nsIn K mainGlobals "_law_counted" = some (some (.ref f26)))
    (l26 : K.lookup f26 = some ⟨oc26, od26, .func (PySem.W.fnOf "_law_counted" "_law_counted" (defArgs s_law_counted) (defBody s_law_counted) (defScope s_law_counted) .none kV26 dc26 pm26 an26 cd26 ct26), sl26⟩)
    (c26 : PySem.W.codeIn K cd26 "_law_counted" = true) (k26 : PySem.W.keepIn K (.ref f26) = true)
    (a27 : PySem.W.nsIn K mainGlobals "law" = some (some (.ref f27)))
    (l27 : K.lookup f27 = some ⟨oc27, od27, .func (PySem.W.fnOf "law" "law" (defArgs s_law) (defBody s_law) (defScope s_law) .none kV27 dc27 pm27 an27 cd27 ct27), sl27⟩)
    (c27 : PySem.W.codeIn K cd27 "law" = true) (k27 : PySem.W.keepIn K (.ref f27) = true)
    (z_abs : PySem.W.nsIn K mainGlobals "abs" = some none)
    (z_enumerate : PySem.W.nsIn K mainGlobals "enumerate" = some none)
    (z_int : PySem.W.nsIn K mainGlobals "int" = some none)
    (z_len : PySem.W.nsIn K mainGlobals "len" = some none)
    (z_list : PySem.W.nsIn K mainGlobals "list" = some none)
    (z_range : PySem.W.nsIn K mainGlobals "range" = some none)
    (z_repr : PySem.W.nsIn K mainGlobals "repr" = some none)
    (z_sum : PySem.W.nsIn K mainGlobals "sum" = some none)
    (z_tuple : PySem.W.nsIn K mainGlobals "tuple" = some none)
    (z_zip : PySem.W.nsIn K mainGlobals "zip" = some none)
    : ∀ (s : Shared) (a : Addr) (ns : List Int) (base : Heap) (H : Hp), ns.length ≤ 63 → (∀ z ∈ ns, Builtin.Int.intBits z ≤ 1048576) → Env0 l.prog w K mg base callerA [] s H → SqL K H a (ns.map V.int) →
      codeAny (model l.prog w) callerA (.call (.ref fa) ⟨[.ref a], []⟩) (CR CX0 [] l.prog w H s (fun v _ => v = .bl true) E0) s := by
  have F_all_bits := fun_mk (st := s_all_bits) l0 c0 k0
  have b_all_bits := F_all_bits.binds (ps := ["many"]) fun _ _ _ _ _ _ us hl => match us, hl with | [_], _ => rfl
  have g_all_bits := PySem.W.mg_of X G a0
  have F_first_carry := fun_mk (st := s_first_carry) l1 c1 k1
  have b_first_carry := F_first_carry.binds (ps := ["row"]) fun _ _ _ _ _ _ us hl => match us, hl with | [_], _ => rfl
  have g_first_carry := PySem.W.mg_of X G a1
  have F_deed_bit := fun_mk (st := s_deed_bit) l2 c2 k2
  have b_deed_bit := F_deed_bit.binds (ps := ["deed", "held", "told"]) fun _ _ _ _ _ _ us hl => match us, hl with | [_, _, _], _ => rfl
  have g_deed_bit := PySem.W.mg_of X G a2
  have F_bits_of := fun_mk (st := s_bits_of) l3 c3 k3
  have b_bits_of := F_bits_of.binds (ps := ["row", "carry", "bits"]) fun _ _ _ _ _ _ us hl => match us, hl with | [_, _, _], _ => rfl
  have g_bits_of := PySem.W.mg_of X G a3
  have F_two_or_more := fun_mk (st := s_two_or_more) l4 c4 k4
  have b_two_or_more := F_two_or_more.binds (ps := ["one", "other", "third"]) fun _ _ _ _ _ _ us hl => match us, hl with | [_, _, _], _ => rfl
  have g_two_or_more := PySem.W.mg_of X G a4
  have F_deed_carry := fun_mk (st := s_deed_carry) l5 c5 k5
  have b_deed_carry := F_deed_carry.binds (ps := ["deed", "held", "told"]) fun _ _ _ _ _ _ us hl => match us, hl with | [_, _, _], _ => rfl
  have g_deed_carry := PySem.W.mg_of X G a5
  have F_carry_behind := fun_mk (st := s_carry_behind) l6 c6 k6
  have b_carry_behind := F_carry_behind.binds (ps := ["row", "carry", "told"]) fun _ _ _ _ _ _ us hl => match us, hl with | [_, _, _], _ => rfl
  have g_carry_behind := PySem.W.mg_of X G a6
  have F_steps := fun_mk (st := s_steps) l7 c7 k7
  have b_steps := F_steps.binds (ps := ["row", "carry"]) fun _ _ _ _ _ _ us hl => match us, hl with | [_, _], _ => rfl
  have g_steps := PySem.W.mg_of X G a7
  have F_kept_steps := fun_mk (st := s_kept_steps) l8 c8 k8
  have b_kept_steps := F_kept_steps.binds (ps := ["kept", "row", "carry"]) fun _ _ _ _ _ _ us hl => match us, hl with | [_, _, _], _ => rfl
  have g_kept_steps := PySem.W.mg_of X G a8
  have F_counted_on := fun_mk (st := s_counted_on) l9 c9 k9
  have b_counted_on := F_counted_on.binds (ps := ["row", "kept", "counts", "wanted"]) fun _ _ _ _ _ _ us hl => match us, hl with | [_, _, _, _], _ => rfl
  have g_counted_on := PySem.W.mg_of X G a9
  have F_how_many := fun_mk (st := s_how_many) l10 c10 k10
  have b_how_many := F_how_many.binds (ps := ["row", "width", "word"]) fun _ _ _ _ _ _ us hl => match us, hl with | [_, _, _], _ => rfl
  have g_how_many := PySem.W.mg_of X G a10
  have F_law_well := fun_mk (st := s_law_well) l11 c11 k11
  have b_law_well := F_law_well.binds (ps := ["script"]) fun _ _ _ _ _ _ us hl => match us, hl with | [_], _ => rfl
  have g_law_well := PySem.W.mg_of X G a11
  have F_law_draw := fun_mk (st := s_law_draw) l12 c12 k12
  have b_law_draw := F_law_draw.binds (ps := ["well", "many"]) fun _ _ _ _ _ _ us hl => match us, hl with | [_, _], _ => rfl
  have g_law_draw := PySem.W.mg_of X G a12
  have F_law_first_words := fun_mk (st := s_law_first_words) l13 c13 k13
  have b_law_first_words := F_law_first_words.binds (ps := []) fun _ _ _ _ _ _ us hl => match us, hl with | [], _ => rfl
  have g_law_first_words := PySem.W.mg_of X G a13
  have F_law_deed := fun_mk (st := s_law_deed) l14 c14 k14
  have b_law_deed := F_law_deed.binds (ps := ["well", "ahead"]) fun _ _ _ _ _ _ us hl => match us, hl with | [_, _], _ => rfl
  have g_law_deed := PySem.W.mg_of X G a14
  have F_law_row := fun_mk (st := s_law_row) l15 c15 k15
  have b_law_row := F_law_row.binds (ps := ["well", "many", "most"]) fun _ _ _ _ _ _ us hl => match us, hl with | [_, _, _], _ => rfl
  have g_law_row := PySem.W.mg_of X G a15
  have F_law_top := fun_mk (st := s_law_top) l16 c16 k16
  have b_law_top := F_law_top.binds (ps := ["width"]) fun _ _ _ _ _ _ us hl => match us, hl with | [_], _ => rfl
  have g_law_top := PySem.W.mg_of X G a16
  have F_law_value := fun_mk (st := s_law_value) l17 c17 k17
  have b_law_value := F_law_value.binds (ps := ["word", "handed", "top"]) fun _ _ _ _ _ _ us hl => match us, hl with | [_, _, _], _ => rfl
  have g_law_value := PySem.W.mg_of X G a17
  have F_law_values := fun_mk (st := s_law_values) l18 c18 k18
  have b_law_values := F_law_values.binds (ps := ["row", "top", "words"]) fun _ _ _ _ _ _ us hl => match us, hl with | [_, _, _], _ => rfl
  have g_law_values := PySem.W.mg_of X G a18
  have F_law_words := fun_mk (st := s_law_words) l19 c19 k19
  have b_law_words := F_law_words.binds (ps := ["well", "many", "top"]) fun _ _ _ _ _ _ us hl => match us, hl with | [_, _, _], _ => rfl
  have g_law_words := PySem.W.mg_of X G a19
  have F_law_all_words := fun_mk (st := s_law_all_words) l20 c20 k20
  have b_law_all_words := F_law_all_words.binds (ps := ["many", "top"]) fun _ _ _ _ _ _ us hl => match us, hl with | [_, _], _ => rfl
  have g_law_all_words := PySem.W.mg_of X G a20
  have F_law_step := fun_mk (st := s_law_step) l21 c21 k21
  have b_law_step := F_law_step.binds (ps := ["row", "carry", "bits"]) fun _ _ _ _ _ _ us hl => match us, hl with | [_, _, _], _ => rfl
  have g_law_step := PySem.W.mg_of X G a21
  have F_law_first := fun_mk (st := s_law_first) l22 c22 k22
  have b_law_first := F_law_first.binds (ps := ["row"]) fun _ _ _ _ _ _ us hl => match us, hl with | [_], _ => rfl
  have g_law_first := PySem.W.mg_of X G a22
  have F_law_choices := fun_mk (st := s_law_choices) l23 c23 k23
  have b_law_choices := F_law_choices.binds (ps := ["many"]) fun _ _ _ _ _ _ us hl => match us, hl with | [_], _ => rfl
  have g_law_choices := PySem.W.mg_of X G a23
  have F_law_long_row := fun_mk (st := s_law_long_row) l24 c24 k24
  have b_law_long_row := F_law_long_row.binds (ps := ["well", "many"]) fun _ _ _ _ _ _ us hl => match us, hl with | [_, _], _ => rfl
  have g_law_long_row := PySem.W.mg_of X G a24
  have F_law_word := fun_mk (st := s_law_word) l25 c25 k25
  have b_law_word := F_law_word.binds (ps := ["well", "row", "top"]) fun _ _ _ _ _ _ us hl => match us, hl with | [_, _, _], _ => rfl
  have g_law_word := PySem.W.mg_of X G a25
  have F_law_counted := fun_mk (st := s_law_counted) l26 c26 k26
  have b_law_counted := F_law_counted.binds (ps := ["row", "width", "word"]) fun _ _ _ _ _ _ us hl => match us, hl with | [_, _, _], _ => rfl
  have g_law_counted := PySem.W.mg_of X G a26
  have F_law := fun_mk (st := s_law) l27 c27 k27
  have b_law := F_law.binds (ps := ["script"]) fun _ _ _ _ _ _ us hl => match us, hl with | [_], _ => rfl
  obtain rfl : fa = f27 := by
    have e := hfa.symm.trans (PySem.W.mg_of X G a27)
    cases e
    rfl
  have m_abs := PySem.W.mg_none_of X G z_abs
  have m_enumerate := PySem.W.mg_none_of X G z_enumerate
  have m_int := PySem.W.mg_none_of X G z_int
  have m_len := PySem.W.mg_none_of X G z_len
  have m_list := PySem.W.mg_none_of X G z_list
  have m_range := PySem.W.mg_none_of X G z_range
  have m_repr := PySem.W.mg_none_of X G z_repr
  have m_sum := PySem.W.mg_none_of X G z_sum
  have m_tuple := PySem.W.mg_none_of X G z_tuple
  have m_zip := PySem.W.mg_none_of X G z_zip
  intro s a ns base H hlen hbits e0 hS
  have GD := ok_draw (P := l.prog) (w := w) (mg := mg) (base := base) (k := 0) F_law_draw
  have GE := ok_deed (P := l.prog) (w := w) (mg := mg) (base := base) (k := 0) F_law_deed F_law_draw F_law_first_words b_law_draw b_law_first_words g_law_draw g_law_first_words m_list m_tuple m_range
  have GR := ok_row (P := l.prog) (w := w) (mg := mg) (base := base) (k := 0) F_law_row GD F_law_draw.kp GE F_law_deed.kp b_law_draw b_law_deed g_law_draw g_law_deed m_tuple m_range
  have GW := ok_well (P := l.prog) (w := w) (mg := mg) (base := base) (k := 0) F_law_well m_abs
  have GF := ok_fc (P := l.prog) (w := w) (mg := mg) (base := base) (k := 0) F_first_carry m_tuple
  have GDb := ok_db (P := l.prog) (w := w) (mg := mg) (base := base) (k := 0) F_deed_bit
  have GB := ok_bo (P := l.prog) (w := w) (mg := mg) (base := base) (k := 0) F_bits_of GDb F_deed_bit.kp b_deed_bit g_deed_bit m_list m_tuple m_zip
  have GTm := ok_tm (P := l.prog) (w := w) (mg := mg) (base := base) (k := 0) F_two_or_more
  have GDc := ok_dc (P := l.prog) (w := w) (mg := mg) (base := base) (k := 0) F_deed_carry GTm F_two_or_more.kp b_two_or_more g_two_or_more
  have GCb := ok_cb (P := l.prog) (w := w) (mg := mg) (base := base) (k := 0) F_carry_behind GDc F_deed_carry.kp b_deed_carry g_deed_carry m_tuple m_zip
  have GAl := ok_all (P := l.prog) (w := w) (mg := mg) (base := base) (k := 0) F_all_bits m_range
  have GSt := ok_st (P := l.prog) (w := w) (mg := mg) (base := base) (k := 0) F_steps GAl F_all_bits.kp b_all_bits g_all_bits GB F_bits_of.kp b_bits_of g_bits_of GCb F_carry_behind.kp b_carry_behind g_carry_behind
  have GKs := ok_ks (P := l.prog) (w := w) (mg := mg) (base := base) (k := 0) F_kept_steps GSt F_steps.kp b_steps g_steps
  have GCo := ok_co (P := l.prog) (w := w) (mg := mg) (base := base) (k := 0) F_counted_on GKs F_kept_steps.kp b_kept_steps g_kept_steps
  have GHm := ok_hm (P := l.prog) (w := w) (mg := mg) (base := base) (k := 0) F_how_many GF F_first_carry.kp b_first_carry g_first_carry GCo F_counted_on.kp b_counted_on g_counted_on m_range m_sum
  have GLo := ok_long (P := l.prog) (w := w) (mg := mg) (base := base) (k := 0) F_law_long_row GD F_law_draw.kp GE F_law_deed.kp b_law_draw b_law_deed g_law_draw g_law_deed m_tuple m_range
  have GTp := ok_top (P := l.prog) (w := w) (mg := mg) (base := base) (k := 0) F_law_top m_range
  have GAw := ok_aw (P := l.prog) (w := w) (mg := mg) (base := base) (k := 0) F_law_all_words m_range
  have GLv := ok_lv (P := l.prog) (w := w) (mg := mg) (base := base) (k := 0) F_law_value
  have GLs := ok_lvs (P := l.prog) (w := w) (mg := mg) (base := base) (k := 0) F_law_values GLv F_law_value.kp b_law_value g_law_value m_list
  have GO := ok_words (P := l.prog) (w := w) (mg := mg) (base := base) (k := 0) F_law_words GD F_law_draw.kp b_law_draw g_law_draw m_range
  have GWo := ok_wo (P := l.prog) (w := w) (mg := mg) (base := base) F_law_word GD F_law_draw.kp b_law_draw g_law_draw GLs F_law_values.kp b_law_values g_law_values GO F_law_words.kp b_law_words g_law_words
  have GF1 := ok_f1 (P := l.prog) (w := w) (mg := mg) (base := base) (k := 0) F_law_first m_tuple m_int
  have GL1 := ok_l1 (P := l.prog) (w := w) (mg := mg) (base := base) (k := 0) F_law_step m_list m_tuple m_enumerate m_int
  have GCh := ok_ch (P := l.prog) (w := w) (mg := mg) (base := base) (k := 0) F_law_choices m_range
  have GCd := ok_cd (P := l.prog) (w := w) (mg := mg) (base := base) (k := 0) F_law_counted GF1 F_law_first.kp b_law_first g_law_first GL1 F_law_step.kp b_law_step g_law_step GCh F_law_choices.kp b_law_choices g_law_choices m_range m_sum
  exact law_run F_law b_law GW F_law_well.kp b_law_well g_law_well GD F_law_draw.kp b_law_draw g_law_draw GR F_law_row.kp b_law_row g_law_row GLo F_law_long_row.kp b_law_long_row g_law_long_row GTp F_law_top.kp b_law_top g_law_top GAw F_law_all_words.kp b_law_all_words g_law_all_words GLs F_law_values.kp b_law_values g_law_values GHm F_how_many.kp b_how_many g_how_many GWo F_law_word.kp b_law_word g_law_word GCd F_law_counted.kp b_law_counted g_law_counted m_range m_repr m_len hlen hbits e0 hS
end
end KK
open PySem PySem.W PyProof.Rows
set_option maxHeartbeats 0 in
theorem PySem.Challenge.cw_anywide_k32_choices_of_one_worth_counted_holds : PySem.Challenge.rw_anywide_k32_choices_of_one_worth_counted.Holds := by
  w_on; o_law; k_head; (case hw => w_witness2)
  k_fill
  refine AW.walkG (l := PySem.Challenge.rw_anywide_k32_choices_of_one_worth_counted) (n := 63) rfl (by decide) rfl (fun w h Y => PySem.W.kIn_of Y) ?F
  case F =>
    intro w mg fa h KX G hmg
    refine' KK.all_mk KX G hmg ?a0 ?l0 ?c0 ?k0 ?a1 ?l1 ?c1 ?k1 ?a2 ?l2 ?c2 ?k2 ?a3 ?l3 ?c3 ?k3 ?a4 ?l4 ?c4 ?k4 ?a5 ?l5 ?c5 ?k5 ?a6 ?l6 ?c6 ?k6 ?a7 ?l7 ?c7 ?k7 ?a8 ?l8 ?c8 ?k8 ?a9 ?l9 ?c9 ?k9 ?a10 ?l10 ?c10 ?k10 ?a11 ?l11 ?c11 ?k11 ?a12 ?l12 ?c12 ?k12 ?a13 ?l13 ?c13 ?k13 ?a14 ?l14 ?c14 ?k14 ?a15 ?l15 ?c15 ?k15 ?a16 ?l16 ?c16 ?k16 ?a17 ?l17 ?c17 ?k17 ?a18 ?l18 ?c18 ?k18 ?a19 ?l19 ?c19 ?k19 ?a20 ?l20 ?c20 ?k20 ?a21 ?l21 ?c21 ?k21 ?a22 ?l22 ?c22 ?k22 ?a23 ?l23 ?c23 ?k23 ?a24 ?l24 ?c24 ?k24 ?a25 ?l25 ?c25 ?k25 ?a26 ?l26 ?c26 ?k26 ?a27 ?l27 ?c27 ?k27 ?z_abs ?z_enumerate ?z_int ?z_len ?z_list ?z_range ?z_repr ?z_sum ?z_tuple ?z_zip
    (case a0 => k_is)
    (case l0 => k_is)
    (case c0 => k_is)
    (case k0 => k_is)
    (case a1 => k_is)
    (case l1 => k_is)
    (case c1 => k_is)
    (case k1 => k_is)
    (case a2 => k_is)
    (case l2 => k_is)
    (case c2 => k_is)
    (case k2 => k_is)
    (case a3 => k_is)
    (case l3 => k_is)
    (case c3 => k_is)
    (case k3 => k_is)
    (case a4 => k_is)
    (case l4 => k_is)
    (case c4 => k_is)
    (case k4 => k_is)
    (case a5 => k_is)
    (case l5 => k_is)
    (case c5 => k_is)
    (case k5 => k_is)
    (case a6 => k_is)
    (case l6 => k_is)
    (case c6 => k_is)
    (case k6 => k_is)
    (case a7 => k_is)
    (case l7 => k_is)
    (case c7 => k_is)
    (case k7 => k_is)
    (case a8 => k_is)
    (case l8 => k_is)
    (case c8 => k_is)
    (case k8 => k_is)
    (case a9 => k_is)
    (case l9 => k_is)
    (case c9 => k_is)
    (case k9 => k_is)
    (case a10 => k_is)
    (case l10 => k_is)
    (case c10 => k_is)
    (case k10 => k_is)
    (case a11 => k_is)
    (case l11 => k_is)
    (case c11 => k_is)
    (case k11 => k_is)
    (case a12 => k_is)
    (case l12 => k_is)
    (case c12 => k_is)
    (case k12 => k_is)
    (case a13 => k_is)
    (case l13 => k_is)
    (case c13 => k_is)
    (case k13 => k_is)
    (case a14 => k_is)
    (case l14 => k_is)
    (case c14 => k_is)
    (case k14 => k_is)
    (case a15 => k_is)
    (case l15 => k_is)
    (case c15 => k_is)
    (case k15 => k_is)
    (case a16 => k_is)
    (case l16 => k_is)
    (case c16 => k_is)
    (case k16 => k_is)
    (case a17 => k_is)
    (case l17 => k_is)
    (case c17 => k_is)
    (case k17 => k_is)
    (case a18 => k_is)
    (case l18 => k_is)
    (case c18 => k_is)
    (case k18 => k_is)
    (case a19 => k_is)
    (case l19 => k_is)
    (case c19 => k_is)
    (case k19 => k_is)
    (case a20 => k_is)
    (case l20 => k_is)
    (case c20 => k_is)
    (case k20 => k_is)
    (case a21 => k_is)
    (case l21 => k_is)
    (case c21 => k_is)
    (case k21 => k_is)
    (case a22 => k_is)
    (case l22 => k_is)
    (case c22 => k_is)
    (case k22 => k_is)
    (case a23 => k_is)
    (case l23 => k_is)
    (case c23 => k_is)
    (case k23 => k_is)
    (case a24 => k_is)
    (case l24 => k_is)
    (case c24 => k_is)
    (case k24 => k_is)
    (case a25 => k_is)
    (case l25 => k_is)
    (case c25 => k_is)
    (case k25 => k_is)
    (case a26 => k_is)
    (case l26 => k_is)
    (case c26 => k_is)
    (case k26 => k_is)
    (case a27 => k_is)
    (case l27 => k_is)
    (case c27 => k_is)
    (case k27 => k_is)
    (case z_abs => k_is)
    (case z_enumerate => k_is)
    (case z_int => k_is)
    (case z_len => k_is)
    (case z_list => k_is)
    (case z_range => k_is)
    (case z_repr => k_is)
    (case z_sum => k_is)
    (case z_tuple => k_is)
    (case z_zip => k_is)
