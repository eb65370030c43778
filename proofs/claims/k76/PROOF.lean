import PyProof.Rows.All
import Wide.All
import OpenK.AllK
import Wide.FinOn
import HandS.Base
import HandS.Call
import HandS.List
import HandS.Comp
import HandS.Ends
import HandS.Dict
import HandS.Iter
import HandS.EndBits
import HandS.Words
import HandS.WordsList
import HandS.WordsDict
import HandS.Text
import HandS.Wide
import HandS.WideBits
import HandS.Conv
import HandS.TupLe
import HandS.IsInst
import HandS.ExcIs
import HandS.ExcValue
import HandS.TupSets
import HandS.Zip
import HandS.Walk
import HandS.TupAny
import HandS.Deep
import PyProof.ReprRoads
import PyProof.ReprBulk
import KE.GoesZip
import KE.GoesMore
import KE.GoesEnum
import HandS.DictTup
import HandS.TupLen
import HandS.NoneIn
import HandS.Records
import HandS.Flow
import HandS.More
import KE.KDictWalk
import KE.KDictDisplayH
import PyProof.WalkInts
import PyProof.DictTable
import KE.KeyNested
import KE.KDictKeyed
import PyProof.DictMoreH
import HandS.ListItems
import KE.KTurns
import HandS.Star
import PyProof.StrOps2
import HandS.TryOnly
import HandS.WordsExc
import HandS.Style
import HandS.RaiseMore
import HandS.FStr
import HandS.ExcOwn
import HandS.ExcCtx
import PySem.Challenge.RW_anywide_k76_rows_read
set_option Elab.async false
set_option linter.all false
set_option maxRecDepth 100000
namespace AW
open PySem PySem.Spec PyProof.Rows L2

/-! ### a def's call at one around -/
theorem fn_at {P : Program} {w : World} {K : PySem.W.Frag} {mg : Str → Option Value} {base : Heap} {k : Nat} {f : Addr} {x qual : Str} {st : Stmt} {fd : FuncData} {N ps : List Str}
    (F : Fun K x qual st f fd) (S : FnScope N ps (defScope st)) {A : Around} {outer : List Env} {s : Shared} {H : Hp} {args : Args} {us : List Value} {vs : List V} {Q : VK} {E : XK}
    (hr : Room (k + 1) A) (e0 : Env0 P w K mg base A outer s H) (hb : BindsTo s fd args (ps.zip us)) (r : Vals vs us) (hl : vs.length = ps.length)
    (hbody : ∀ cdv : Value, ∃ t, PSs (cxOf CX0 P w K mg base N qual (defScope st) f cdv A outer s H E).nox (defBody st) t ∧ t { nx := fun _ H' => Q .non H', rt := Q } (start N vs) H) :
    codeAny (model P w) A (.call (.ref f) args) (CR CX0 outer P w H s Q E) s := by
  obtain ⟨oc, od, kV, doc, pm, an, cdv, ct, osl, rfl, lk, hcd⟩ := F.ex
  have keep0 : ∀ b o, base.get? b = some o → s.heap.get? b = some o := fun b o e => (e0.bs b o e).1
  have KX := e0.mod.kin.keeps keep0
  refine codeAny_call_function (Room.depth hr) (KX _ _ lk) rfl S.co S.gen rfl (PySem.W.codeRec_of KX hcd) (hb _ _ _ _ ?_)
  have kinds : ∀ y ∈ ps.zip us, (defScope st).names.lookup y.1 = some .local ∨ ((defScope st).names.lookup y.1 = some .cell ∧ ((cellsFrom (s.heap.objs.size + 1) (defScope st).names []).lookup y.1).isSome = true) := by
    intro y hy
    obtain ⟨n, v⟩ := y
    exact (S.par n (List.of_mem_zip hy).1).elim Or.inl fun q => Or.inr ⟨q, PySem.W.cellsFrom_some _ _ _ (.inl q)⟩
  refine wpAny_newFunctionEnv_cells S.kind kinds ?_
  rintro env rfl s1 ic
  obtain ⟨t, ht, hq⟩ := hbody cdv
  refine ⟨(e0.mod.nolimit.keeps keep0).keeps ic.toInCall.keep, codeAny_func (wpAny_mono (ht.nox.run [] s1 (start N vs) H _ (inv_start S hr.hd e0 hl r ic) hq) ?_ (fun _ _ z => z))⟩
  intro fl s' hs
  cases fl with
  | ret u =>
    obtain ⟨v, σ', H', J, rv, q⟩ := hs
    exact ⟨v, H', J.os, J.bare, J.base, J.hok, rv, q⟩
  | next =>
    obtain ⟨σ', H', J, q⟩ := hs
    exact ⟨V.non, H', J.os, J.bare, J.base, J.hok, rfl, q⟩
  | brk => exact hs.elim fun _ z => z.elim fun _ z => z.2.elim
  | cont => exact hs.elim fun _ z => z.elim fun _ z => z.2.elim

/-! ### the law's own call -/
theorem env_at {P : Program} {w : World} {K : PySem.W.Frag} {mg mb : Str → Option Value} {a : Addr} {s1 : Shared} {vs : List Value} {H : Hp}
    (KX : K.In s1.heap) (hns : s1.heap.Ns mainGlobals mg) (hb : s1.heap.Ns builtinsNs mb) (hbb : ∀ x : Str, x ≠ "__name__" → mb x = bootBuiltins x) (hlim : s1.heap.NoLimit) (hg : s1.gens = #[])
    (ha : s1.heap.get? a = some { cls := .type "list", data := .seq vs.toArray }) (one : ∀ b u, H b = some u → b = a) (out : ∀ o, K.lookup a = some o → H a = none) (ok : HOk P w H s1.heap) :
    Env0 P w K mg (hidT s1.heap H) callerA [] s1 H := by
  have dicts : ∀ {b : Addr} {m : Str → Option Value}, s1.heap.Ns b m → (hidT s1.heap H).Ns b m := by
    rintro b m ⟨o, es, ep, e, d, r⟩
    refine ⟨o, es, ep, hidT_get e ?_, d, r⟩
    match q : H b with
    | none => rfl
    | some u =>
      obtain rfl := one b u q
      have e2 := Option.some.inj (e.symm.trans ha)
      rw [e2] at d
      cases d
  have kin : K.In (hidT s1.heap H) := by
    intro b o e
    refine hidT_get (KX b o e) ?_
    match q : H b with
    | none => rfl
    | some u =>
      obtain rfl := one b u q
      exact q.symm.trans (out o e)
  obtain ⟨mc, l1, l2⟩ := hlim
  exact ⟨rfl, ⟨kin, dicts hns, ⟨mb, dicts hb, hbb⟩, ⟨mc, dicts l1, l2⟩⟩, fun b o e => of_hidT e, Nat.le_of_eq (hidT_size _ _), trivial, (fun b z => nomatch z), ok, .of_eq hg⟩

theorem law_end {P : Program} {w : World} {K : PySem.W.Frag} {mg mb : Str → Option Value} {fa a : Addr} {s1 : Shared} {vs : List Value} {ns : List Int}
    (KX : K.In s1.heap) (hns : s1.heap.Ns mainGlobals mg) (hb : s1.heap.Ns builtinsNs mb) (hbb : ∀ x : Str, x ≠ "__name__" → mb x = bootBuiltins x) (hlim : s1.heap.NoLimit) (hg : s1.gens = #[])
    (ha : s1.heap.get? a = some { cls := .type "list", data := .seq vs.toArray }) (hi : IntsAre vs ns) (hl : ns.length ≤ sizeLine)
    (run : ∀ (base : Heap) (H : Hp), Env0 P w K mg base callerA [] s1 H → SqL K H a (ns.map V.int) →
      codeAny (model P w) callerA (.call (.ref fa) ⟨[.ref a], []⟩) (CR CX0 [] P w H s1 (fun v _ => v = .bl true) E0) s1) :
    codeAny (model P w) callerA (.call (.ref fa) ⟨[.ref a], []⟩) (fun r s' => r = .ok (.ret (.bool true)) ∧ OldK s1.heap s'.heap ∧ s'.os = s1.os ∧ AllBare s'.gens) s1 := by
  have rv := vals_ints hi
  have fin : ∀ H : Hp, HOk P w H s1.heap → (∀ b u, H b = some u → ∃ o xs, u = .frz o (.lst xs)) → ∀ r s', CR CX0 [] P w H s1 (fun v _ => v = .bl true) E0 r s' →
      r = .ok (.ret (.bool true)) ∧ OldK s1.heap s'.heap ∧ s'.os = s1.os ∧ AllBare s'.gens := by
    intro H ok hf r s' h
    match r, h with
    | .ok (.ret u), ⟨v, H', os, bare, un, ok2, rel, q⟩ =>
      obtain rfl : v = .bl true := q
      obtain rfl : u = Value.bool true := rel
      refine ⟨rfl, OldK.of_keep ?_, os, bare⟩
      intro b o e
      match qb : H b with
      | none => exact un.keep b o e qb (fun z => nomatch z) (fun z => nomatch z)
      | some ho =>
        obtain ⟨o2, xs, rfl⟩ := hf b ho qb
        have k1 := (ok b _ qb).1
        have k2 := (ok2 b _ (un.frzs b o2 _ qb)).1
        rw [e] at k1
        cases k1
        exact k2
  match hk : K.lookup a with
  | some o =>
    have e := (KX a o hk).symm.trans ha
    obtain rfl := Option.some.inj e
    have ok : HOk P w (fun _ => none) s1.heap := fun b u z => nomatch z
    refine codeAny_mono (run _ (fun _ => none) (env_at KX hns hb hbb hlim hg ha (fun b u z => nomatch z) (fun _ _ => rfl) ok) ?_) (fin _ ok fun b u z => nomatch z)
    exact .inr ⟨_, vs.toArray, _, hk, rfl, rfl, rfl, by rw [List.size_toArray, hi.length]; exact hl, by simpa using rv⟩
  | none =>
    let o : Obj := { cls := .type "list", data := .seq vs.toArray }
    have at_ : ∀ b u, (if b = a then some (HO.frz o (.lst (ns.map V.int))) else none) = some u → b = a ∧ u = HO.frz o (.lst (ns.map V.int)) := by
      intro b u z
      by_cases hb : b = a
      · rw [if_pos hb] at z
        exact ⟨hb, (Option.some.inj z).symm⟩
      · rw [if_neg hb] at z
        cases z
    have ok : HOk P w (fun b => if b = a then some (HO.frz o (.lst (ns.map V.int))) else none) s1.heap := by
      intro b u z
      obtain ⟨rfl, rfl⟩ := at_ b u z
      exact ⟨ha, by rw [List.length_map]; exact hl, vs, _, rv, ha⟩
    refine codeAny_mono (run _ _ (env_at KX hns hb hbb hlim hg ha (fun b u z => (at_ b u z).1) (fun o' e => absurd (hk.symm.trans e) (fun z => nomatch z)) ok) ?_) (fin _ ok fun b u z => ⟨_, _, (at_ b u z).2⟩)
    exact .inl (.inr ⟨o, if_pos rfl⟩)

theorem walkG {l : PySem.W.OpenLaw} {n : Nat} {q : Program} {loose : List Str} {XP : (Str → Option Value) → Heap → Prop} {YP : World → Heap → Prop} {d : DefRec} {K : Params → PySem.W.Frag}
    (hn : l.most = some n) (hn2 : n ≤ sizeLine) (hdf : d.params.defaults = []) (hY : ∀ (w : World) (h : Heap), YP w h → (K w.params).In h)
    (F : ∀ (w : World) (mg : Str → Option Value) (fa : Addr) (h : Heap), (K w.params).In h → h.Ns mainGlobals mg → mg d.name = some (.ref fa) →
      ∀ (s : Shared) (a : Addr) (ns : List Int) (base : Heap) (H : Hp), ns.length ≤ n → (∀ z ∈ ns, Builtin.Int.intBits z ≤ 1048576) → Env0 l.prog w (K w.params) mg base callerA [] s H → SqL (K w.params) H a (ns.map V.int) →
        codeAny (model l.prog w) callerA (.call (.ref fa) ⟨[.ref a], []⟩) (CR CX0 [] l.prog w H s (fun v _ => v = .bl true) E0) s) :
    PySem.W.WalkO q loose XP YP l.row.toRowW d [] (fun f vs => PySem.call f vs) := by
  apply Att.attach_callB hn hdf
  intro w s0 s1 mg mb fa o pm cd doc a vs ns G Y ho hd hcd hmg hobj hints hlen hbits hg
  have KX := hY w _ Y
  exact law_end KX G.T.g G.T.b G.T.builtins G.T.nolimit hg hobj hints (Nat.le_trans hlen hn2) fun base H e0 hS => F w mg fa _ KX G.T.g hmg s1 a ns base H hlen hbits e0 hS

/-! ### repr of data -/
section
variable {X : Cx}
/-- what a value reads, whatever the state -/
def Rz (X : Cx) (H : Hp) (v : V) (d : PyData) : Prop := ∀ pins σ s u, Inv X pins σ H s → RelV v u → ∃ as, Reads s.heap u d as ∧ sysModules ∉ as
def rRepr (X : Cx) : List V → Hp → VK → Prop := fun xs H Q => ∃ (x : V) (d : PyData), xs = [x] ∧ (Rz X H x d ∨ (Dp X.K H x d ∧ d.hasDict = false)) ∧ d.showable = true ∧ d.depth ≤ 40 ∧ d.shown.length ≤ sizeLine ∧ Q (.str d.shown) H
theorem call_repr (hg : X.A.guards = some []) (hu : X.A.units + 64 < cLine) : CallR X (.builtin "repr") (rRepr X) := by
  intro pins s σ H xs us Q I r h
  obtain ⟨x, d, rfl, hd, hs, hp, hz, q⟩ := h
  match us, r with
  | [u], .cons rx .nil =>
    have rd : ∃ as, Reads s.heap u d as ∧ (d.hasDict = true → sysModules ∉ as) := by
      rcases hd with hd | ⟨hd, hn⟩
      · obtain ⟨as, h1, h2⟩ := hd pins σ s u I rx
        exact ⟨as, h1, fun _ => h2⟩
      · obtain ⟨as, h1⟩ := Dp.reads I d x u hd rx
        exact ⟨as, h1, fun z => by rw [hn] at z; cases z⟩
    obtain ⟨as, h1, h2⟩ := rd
    cases h1 with
    | none => exact PySem.P.repr_of_none ⟨.str _, H, I.tok _, ⟨_, rfl⟩, q⟩
    | bool b => exact PySem.P.repr_of_bool ⟨.str _, H, I.tok _, ⟨_, rfl⟩, by have q' := q; simp only [PyData.shown] at q'; cases b <;> exact q'⟩
    | int i t => exact PySem.P.repr_of_int (by simpa [PyData.showable] using hs) ⟨.str _, H, I.tok _, ⟨_, rfl⟩, by simpa only [PyData.shown] using q⟩
    | str x t => exact PySem.P.repr_of_str ⟨.str _, H, I.tok _, ⟨_, rfl⟩, by simpa only [PyData.shown] using q⟩ (by simpa only [PyData.shown] using hz)
    | list a b c e => exact repr_of_reads' (Reads.list a b c e) hs h2 hg (by omega) (fun _ _ e => e) (fun h' u tk k => ⟨.str _, H, I.kept k, ⟨_, rfl⟩, q⟩) hz
    | tuple a b c e => exact repr_of_reads' (Reads.tuple a b c e) hs h2 hg (by omega) (fun _ _ e => e) (fun h' u tk k => ⟨.str _, H, I.kept k, ⟨_, rfl⟩, q⟩) hz
    | dict a b c e f => exact repr_of_reads' (Reads.dict a b c e f) hs h2 hg (by omega) (fun _ _ e => e) (fun h' u tk k => ⟨.str _, H, I.kept k, ⟨_, rfl⟩, q⟩) hz

theorem Rz.int (H : Hp) (i : Int) : Rz X H (.int i) (.int i) := by
  rintro pins σ s u I ⟨t, rfl⟩
  exact ⟨_, Reads.int i t, (fun z => nomatch z)⟩
theorem Rz.str (H : Hp) (x : Str) : Rz X H (.str x) (.str x) := by
  rintro pins σ s u I ⟨t, rfl⟩
  exact ⟨_, Reads.str x t, (fun z => nomatch z)⟩
theorem rz_all {H : Hp} : ∀ {vs : List V} {ds : List PyData}, Paired (Rz X H) vs ds → ∀ {pins σ s us}, Inv X pins σ H s → Vals vs us → ∃ as, ReadsAll s.heap us ds as ∧ sysModules ∉ as
  | _, _, .nil, _, _, _, _, _, .nil => ⟨_, ReadsAll.nil, (fun z => nomatch z)⟩
  | _, _, .cons h t, _, _, _, _, I, .cons r rs => by
    obtain ⟨as, a1, a2⟩ := h _ _ _ _ I r
    obtain ⟨bs, b1, b2⟩ := rz_all t I rs
    exact ⟨_, ReadsAll.cons a1 b1, fun z => (List.mem_append.mp z).elim a2 b2⟩
theorem Rz.tup {H : Hp} {a : Addr} {xs : List V} {ds : List PyData} (h : SqT X.K H a xs) (hs : Paired (Rz X H) xs ds) : Rz X H (.ref a) (.tuple ds) := by
  intro pins σ s u I r
  obtain rfl : u = Value.ref a := r
  obtain ⟨its, rv, ⟨o, ho, hc, n, hd⟩, _⟩ := I.tuple h
  obtain ⟨as, h1, h2⟩ := rz_all hs I rv
  exact ⟨_, Reads.tuple ho hc hd h1, h2⟩
end
end AW
namespace AW
open PySem PySem.Spec PyProof.Rows L2
section
variable {X : Cx}
def CPowW (i j : Int) : Prop := 0 ≤ j ∧ (Builtin.Int.intBits i : Int) * j ≤ 2 ^ 27
theorem op_powW : OpR X (binaryOp .Pow) (rI CPowW fun i j => .int (i ^ j.toNat)) := opI fun _ _ _ _ _ _ _ hc q => pow_int hc.1 hc.2 q
end
theorem bits_lt {z : Int} {n : Nat} (h : Builtin.Int.intBits z ≤ n) : z.natAbs < 2 ^ n := by
  unfold Builtin.Int.intBits at h
  by_cases e : z = 0
  · subst e
    exact Nat.pos_of_ne_zero (by simp)
  · rw [if_neg (by simpa using e)] at h
    have : z.natAbs ≠ 0 := by omega
    exact (Nat.log2_lt this).mp (by omega)
theorem seed_ok {z c : Int} (h0 : 0 ≤ z) (h1 : z ≤ 2147483629) (h2 : Builtin.Int.intBits c ≤ 1048576) : CPowW (z * 50021 + c) 3 := by
  refine ⟨by decide, ?_⟩
  have hc := bits_lt h2
  have h3 : (z * 50021 + c).natAbs < 2 ^ 1048577 := by
    have a : (z * 50021 + c).natAbs ≤ (z * 50021).natAbs + c.natAbs := Int.natAbs_add_le _ _
    have b : (z * 50021).natAbs ≤ 2 ^ 48 := by omega
    have d : (2 : Nat) ^ 48 ≤ 2 ^ 1048576 := Nat.pow_le_pow_right (by decide) (by decide)
    have e : (2 : Nat) ^ 1048577 = 2 ^ 1048576 + 2 ^ 1048576 := by rw [Nat.pow_succ]; omega
    omega
  have h4 := PyProof.Rows.intBits_le h3
  have e : (2 : Int) ^ 27 = 134217728 := by decide
  rw [e]
  omega
/-! ### what follows an if, shown once -/
def tMid (t u : TS) : TS := fun D σ H => ∃ M : L2.St → Hp → Prop, t { D with nx := M } σ H ∧ ∀ σ2 H2, M σ2 H2 → u D σ2 H2
theorem pss_mid {X : Cx} {st : Stmt} {r : List Stmt} {t u : TS} (a : PS X st t) (b : PSs X r u) : PSs X (st :: r) (tMid t u) := by
  constructor
  rintro pins s σ H D I ⟨M, h1, h2⟩
  apply wpAny_execs_cons
  refine thn (a.run pins s σ H _ I h1) ?_
  intro fl s2 z
  match fl, z with
  | .next, ⟨σ2, H2, I2, m⟩ => exact b.run pins s2 σ2 H2 D I2 (h2 σ2 H2 m)
  | .ret _, z => exact z
  | .brk, z => exact z
  | .cont, z => exact z
/-! ### the well -/
def WL (H : Hp) (a c : Addr) : Prop := a ≠ c ∧ ∃ (cs : List Int) (r s : Int), H a = some (.lst [.ref c, .int r, .int s]) ∧ H c = some (.lst (cs.map V.int))
/-- all but the well stands as it stood -/
def Kp (a c : Addr) (H H' : Hp) : Prop := ∀ b o, b ≠ a → b ≠ c → H b = some o → H' b = some o
theorem Kp.refl (a c : Addr) (H : Hp) : Kp a c H H := fun _ _ _ _ h => h
theorem Kp.trans {a c : Addr} {H H1 H2 : Hp} (h : Kp a c H H1) (k : Kp a c H1 H2) : Kp a c H H2 := fun b o n1 n2 e => k b o n1 n2 (h b o n1 n2 e)
theorem Kp.tup {a c : Addr} {H H' : Hp} (w : WL H a c) (k : Kp a c H H') {b : Addr} {xs : List V} (h : H b = some (.tup xs)) : H' b = some (.tup xs) := by
  obtain ⟨_, cs, r, s, e1, e2⟩ := w
  exact k b _ (ne_of h e1 (fun z => nomatch z)) (ne_of h e2 (fun z => nomatch z)) h
theorem Kp.same {a c : Addr} {H H1 H2 : Hp} (ha : H a = none) (hc : H c = none) (s : Same H H1) (k : Kp a c H1 H2) : Same H H2 := fun b o e => k b o (ne_of_none e ha) (ne_of_none e hc) (s b o e)
theorem same_new {H : Hp} {p : Addr} {o : HO} (h : H p = none) : Same H (upd H p o) := fun b x e => by
  rw [upd_ne (ne_of_none e h)]
  exact e
theorem WL.same {H H' : Hp} {a c : Addr} (w : WL H a c) (k : Same H H') : WL H' a c := by
  obtain ⟨n, cs, r, s, e1, e2⟩ := w
  exact ⟨n, cs, r, s, k _ _ e1, k _ _ e2⟩
theorem WL.ne_new {H : Hp} {a c p : Addr} (w : WL H a c) (h : H p = none) : p ≠ a ∧ p ≠ c := by
  obtain ⟨n, cs, r, s, e1, e2⟩ := w
  exact ⟨(ne_of_none e1 h).symm, (ne_of_none e2 h).symm⟩
theorem WL.upd {H : Hp} {a c p : Addr} {o : HO} (w : WL H a c) (h1 : p ≠ a) (h2 : p ≠ c) : WL (upd H p o) a c := by
  obtain ⟨n, cs, r, s, e1, e2⟩ := w
  exact ⟨n, cs, r, s, by rw [upd_ne h1.symm]; exact e1, by rw [upd_ne h2.symm]; exact e2⟩
theorem Same.kp {a c : Addr} {H H' : Hp} (s : Same H H') : Kp a c H H' := fun b o _ _ e => s b o e
theorem dp_ints {K : PySem.W.Frag} {H : Hp} : ∀ cs : List Int, DpAll K H (cs.map V.int) (cs.map PyData.int)
  | [] => .nil
  | c :: cs => .cons (.int c) (dp_ints cs)
theorem lay_ints : ∀ cs : List Int, PyData.canLayAll0 (cs.map PyData.int) = true ∧ PyData.depthAll (cs.map PyData.int) = 0
  | [] => ⟨by simp only [List.map_nil, PyData.canLayAll0], by simp only [List.map_nil, PyData.depthAll]⟩
  | c :: cs => by
    obtain ⟨h1, h2⟩ := lay_ints cs
    exact ⟨by simp only [List.map_cons, PyData.canLayAll0, PyData.canLay0, h1, Bool.and_self], by simp only [List.map_cons, PyData.depthAll, PyData.depth, h2, Nat.max_self]⟩
theorem shaped_ints (cs : List Int) : SeqAt.shaped (.list (cs.map PyData.int)) = true := by
  obtain ⟨h1, h2⟩ := lay_ints cs
  simp only [SeqAt.shaped, PyData.canLay0, PyData.depth, h1, h2, Bool.true_and]
  decide
theorem dp_strs {K : PySem.W.Frag} {H : Hp} : ∀ cs : List Str, DpAll K H (cs.map V.str) (cs.map PyData.str)
  | [] => .nil
  | c :: cs => .cons (.str c) (dp_strs cs)
theorem lay_strs : ∀ cs : List Str, (∀ x ∈ cs, PyData.strOk x = true) → PyData.canLayAll0 (cs.map PyData.str) = true ∧ PyData.depthAll (cs.map PyData.str) = 0
  | [], _ => ⟨by simp only [List.map_nil, PyData.canLayAll0], by simp only [List.map_nil, PyData.depthAll]⟩
  | c :: cs, h => by
    obtain ⟨h1, h2⟩ := lay_strs cs fun x hx => h x (List.mem_cons_of_mem _ hx)
    exact ⟨by simp only [List.map_cons, PyData.canLayAll0, PyData.canLay0, h1, h c List.mem_cons_self, Bool.and_self], by simp only [List.map_cons, PyData.depthAll, PyData.depth, h2, Nat.max_self]⟩
theorem shaped_strs (cs : List Str) (h : ∀ x ∈ cs, PyData.strOk x = true) : SeqAt.shaped (.list (cs.map PyData.str)) = true := by
  obtain ⟨h1, h2⟩ := lay_strs cs h
  simp only [SeqAt.shaped, PyData.canLay0, PyData.depth, h1, h2, Bool.true_and]
  decide
theorem seq0 (n : Nat) : seqIndex? 0 (n + 1) = some 0 := by
  unfold seqIndex?
  simp
/-! ### the words of deeds, deeds, rows -/
def fwL : List (Str × Int) := [("none", 0), ("one", 0), ("all", 0), ("not", 1), ("neg", 1), ("twice", 1), ("and", 2), ("or", 2), ("xor", 2), ("add", 2), ("sub", 2)]
theorem fw_ok : ∀ x ∈ fwL.map (·.1), PyData.strOk x = true := by decide +kernel
def fwK : List (Key × V) := fwL.map fun p => (Sum.inr p.1, .int p.2)
/-- a deed: its word and its numbers -/
abbrev Deed := Str × List Int
def dV (d : Deed) : List V := .str d.1 :: d.2.map V.int
theorem dv0 (d : Deed) : atI (dV d) 0 = some (.str d.1) := atI_nat (j := 0) rfl
theorem dvN {d : Deed} {k : Nat} {i : Int} (h : d.2[k]? = some i) : atI (dV d) ((k + 1 : Nat) : Int) = some (.int i) := atI_nat (by show (d.2.map V.int)[k]? = _; rw [List.getElem?_map, h]; rfl)
structure DeedOk (m : Int) (d : Deed) : Prop where
  word : (d.1, (d.2.length : Int)) ∈ fwL
  ahead : ∀ i ∈ d.2, 0 ≤ i ∧ i < m
theorem fw_at {z : Int} (h0 : 0 ≤ z) (h1 : z < 11) : ∃ x n, (x, n) ∈ fwL ∧ 0 ≤ n ∧ n ≤ 2 ∧ atI (fwK.map fun kv => kV kv.1) z = some (.str x) ∧ valV fwK (Sum.inr x) = some (.int n) := by
  obtain ⟨k, rfl⟩ := Int.eq_ofNat_of_zero_le h0
  have hk : k = 0 ∨ k = 1 ∨ k = 2 ∨ k = 3 ∨ k = 4 ∨ k = 5 ∨ k = 6 ∨ k = 7 ∨ k = 8 ∨ k = 9 ∨ k = 10 := by omega
  rcases hk with rfl | rfl | rfl | rfl | rfl | rfl | rfl | rfl | rfl | rfl | rfl
  · exact ⟨"none", 0, by decide +kernel, by decide, by decide, by decide +kernel, by decide +kernel⟩
  · exact ⟨"one", 0, by decide +kernel, by decide, by decide, by decide +kernel, by decide +kernel⟩
  · exact ⟨"all", 0, by decide +kernel, by decide, by decide, by decide +kernel, by decide +kernel⟩
  · exact ⟨"not", 1, by decide +kernel, by decide, by decide, by decide +kernel, by decide +kernel⟩
  · exact ⟨"neg", 1, by decide +kernel, by decide, by decide, by decide +kernel, by decide +kernel⟩
  · exact ⟨"twice", 1, by decide +kernel, by decide, by decide, by decide +kernel, by decide +kernel⟩
  · exact ⟨"and", 2, by decide +kernel, by decide, by decide, by decide +kernel, by decide +kernel⟩
  · exact ⟨"or", 2, by decide +kernel, by decide, by decide, by decide +kernel, by decide +kernel⟩
  · exact ⟨"xor", 2, by decide +kernel, by decide, by decide, by decide +kernel, by decide +kernel⟩
  · exact ⟨"add", 2, by decide +kernel, by decide, by decide, by decide +kernel, by decide +kernel⟩
  · exact ⟨"sub", 2, by decide +kernel, by decide, by decide, by decide +kernel, by decide +kernel⟩
theorem awSnoc {α β : Type} {F : α → β → Prop} {x : α} {y : β} (h : F x y) : ∀ {l : List α} {l2 : List β}, Paired F l l2 → Paired F (l ++ [x]) (l2 ++ [y])
  | _, _, .nil => .cons h .nil
  | _, _, .cons r t => .cons r (awSnoc h t)
theorem awMap {α β : Type} {F G : α → β → Prop} (f : ∀ a b, F a b → G a b) : ∀ {l : List α} {l2 : List β}, Paired F l l2 → Paired G l l2
  | _, _, .nil => .nil
  | _, _, .cons r t => .cons (f _ _ r) (awMap f t)
theorem awLen {α β : Type} {F : α → β → Prop} : ∀ {l : List α} {l2 : List β}, Paired F l l2 → l.length = l2.length
  | _, _, .nil => rfl
  | _, _, .cons _ t => congrArg (· + 1) (awLen t)
theorem awGet {α β : Type} {F : α → β → Prop} : ∀ {l : List α} {l2 : List β} {i : Nat} {x : α}, Paired F l l2 → l[i]? = some x → ∃ y, l2[i]? = some y ∧ F x y
  | _, _, _, _, .nil, e => by simp at e
  | _, _, 0, _, .cons r _, e => by
    simp only [List.getElem?_cons_zero, Option.some.injEq] at e
    subst e
    exact ⟨_, rfl, r⟩
  | _, _, i + 1, x, .cons _ t, e => by
    simp only [List.getElem?_cons_succ] at e ⊢
    exact awGet t e
theorem awGet2 {α β : Type} {F : α → β → Prop} {l : List α} {l2 : List β} {i : Nat} {y : β} (h : Paired F l l2) (e : l2[i]? = some y) : ∃ x, l[i]? = some x ∧ F x y := by
  have hi : i < l.length := by
    rw [awLen h]
    exact (List.getElem?_eq_some_iff.mp e).1
  obtain ⟨y2, e2, f⟩ := awGet h (List.getElem?_eq_getElem hi)
  rw [e] at e2
  obtain rfl := Option.some.inj e2
  exact ⟨_, List.getElem?_eq_getElem hi, f⟩
/-- deeds that stand in the heap as tuples -/
abbrev DsAt (H : Hp) : List Addr → List Deed → Prop := Paired fun r d => H r = some (.tup (dV d))
def RowAt (H : Hp) (R : Addr) (m : Int) (ds : List Deed) (o : Int) : Prop := ∃ D rs, H R = some (.tup [.int m, .ref D, .int o]) ∧ H D = some (.tup (rs.map V.ref)) ∧ DsAt H rs ds
structure DsOk (m : Int) (ds : List Deed) : Prop where
  each : ∀ (k : Nat) d, ds[k]? = some d → DeedOk (m + k) d
structure RowOk (m : Int) (ds : List Deed) (o : Int) : Prop where
  m1 : 1 ≤ m
  m3 : m ≤ 3
  len : ds.length ≤ 8
  deeds : DsOk m ds
  o0 : 0 ≤ o
  o1 : o < m + ds.length
/-- all tuples stand -/
def TupsStay (H H' : Hp) : Prop := ∀ b xs, H b = some (.tup xs) → H' b = some (.tup xs)
theorem Same.tups {H H' : Hp} (s : Same H H') : TupsStay H H' := fun b xs e => s b _ e
theorem Kp.tups {a c : Addr} {H H' : Hp} (k : Kp a c H H') (w : WL H a c) : TupsStay H H' := fun b xs e => k.tup w e
theorem TupsStay.trans {H H1 H2 : Hp} (a : TupsStay H H1) (b : TupsStay H1 H2) : TupsStay H H2 := fun c xs e => b c xs (a c xs e)
theorem tups_put {H : Hp} {l : Addr} {xs : List V} {o : HO} (h : H l = some (.lst xs)) : TupsStay H (upd H l o) := fun b ys e => by
  rw [upd_ne (ne_of e h (fun z => nomatch z))]
  exact e
theorem TupsStay.ds {H H' : Hp} (t : TupsStay H H') {rs : List Addr} {ds : List Deed} (h : DsAt H rs ds) : DsAt H' rs ds := awMap (fun r d e => t r _ e) h
theorem TupsStay.row {H H' : Hp} (t : TupsStay H H') {R : Addr} {m o : Int} {ds : List Deed} (h : RowAt H R m ds o) : RowAt H' R m ds o := by
  obtain ⟨D, rs, e1, e2, e3⟩ := h
  exact ⟨D, rs, t _ _ e1, t _ _ e2, t.ds e3⟩
theorem dsOk_snoc {m : Int} {ds : List Deed} {d : Deed} (h : DsOk m ds) (k : DeedOk (m + ds.length) d) : DsOk m (ds ++ [d]) := by
  constructor
  intro i d' e
  by_cases hi : i < ds.length
  · rw [List.getElem?_append_left hi] at e
    exact h.each i d' e
  · rw [List.getElem?_append_right (by omega)] at e
    obtain ⟨h1, h2⟩ := List.getElem?_eq_some_iff.mp e
    have h3 : i = ds.length := by simp only [List.length_cons, List.length_nil] at h1; omega
    subst h3
    simp at h2
    subst h2
    exact k
/-! ### data that is shown in few signs -/
structure Nice (b k : Nat) (d : PyData) : Prop where
  sh : d.showable = true
  lv : d.leavesShort 21 = true
  bk : d.bulk ≤ b
  dp : d.depth ≤ k
theorem Nice.fits {b k : Nat} {d : PyData} (h : Nice b k d) (hb : b ≤ 100000) : d.shown.length ≤ sizeLine := by
  have h1 := PyData.shown_le_bulk 21 (by decide) d h.lv
  have h2 := h.bk
  rw [sizeLine_eq]
  omega
theorem Nice.mono {b b2 k k2 : Nat} {d : PyData} (h : Nice b k d) (hb : b ≤ b2) (hk : k ≤ k2) : Nice b2 k2 d := ⟨h.sh, h.lv, Nat.le_trans h.bk hb, Nat.le_trans h.dp hk⟩
theorem nice_int {i : Int} (h : i.natAbs < 10 ^ 20) : Nice 0 0 (.int i) := by
  refine ⟨?_, ?_, ?_, ?_⟩
  · simp only [PyData.showable, decide_eq_true_eq]
    have : i.natAbs < 2 ^ 70 := Nat.lt_trans h (by decide)
    by_cases e : i.natAbs = 0
    · rw [e]; decide
    · have := (Nat.log2_lt e).mpr this
      omega
  · simp only [PyData.leavesShort, decide_eq_true_eq]
    have e := int_text_length_le10 (k := 20) (by decide) h
    simp only [PyData.shown]
    rw [PySem.ofString_length]
    exact e
  · simp only [PyData.bulk, Nat.le_refl]
  · simp only [PyData.depth, Nat.le_refl]
theorem nice_str {x : Str} {n : Nat} (h : x.cps.size ≤ n) (hx : (x.cps.toList.all fun c => decide (c < 16 ^ 8)) = true) : Nice n 0 (.str x) := by
  refine ⟨?_, ?_, ?_, ?_⟩
  · simp only [PyData.showable]
  · simp only [PyData.leavesShort]
    exact hx
  · simp only [PyData.bulk]
    exact h
  · simp only [PyData.depth, Nat.le_refl]
theorem nice_all {b k : Nat} : ∀ {xs : List PyData}, (∀ x ∈ xs, Nice b k x) → PyData.showableAll xs = true ∧ PyData.leavesShortAll 21 xs = true ∧ PyData.bulkAll xs ≤ xs.length * (b + 1) ∧ PyData.depthAll xs ≤ k
  | [], _ => ⟨by simp only [PyData.showableAll], by simp only [PyData.leavesShortAll], by simp only [PyData.bulkAll, Nat.zero_le], by simp only [PyData.depthAll, Nat.zero_le]⟩
  | x :: xs, h => by
    obtain ⟨h1, h2, h3, h4⟩ := nice_all fun y hy => h y (List.mem_cons_of_mem _ hy)
    obtain ⟨g1, g2, g3, g4⟩ := h x List.mem_cons_self
    refine ⟨by simp only [PyData.showableAll, g1, h1, Bool.and_self], by simp only [PyData.leavesShortAll, g2, h2, Bool.and_self], ?_, ?_⟩
    · simp only [PyData.bulkAll, List.length_cons, Nat.add_mul, Nat.one_mul]
      omega
    · simp only [PyData.depthAll]
      omega
theorem nice_tup {b k n : Nat} {xs : List PyData} (h : ∀ x ∈ xs, Nice b k x) (hn : xs.length * (b + 1) ≤ n) : Nice n (k + 1) (.tuple xs) := by
  obtain ⟨h1, h2, h3, h4⟩ := nice_all h
  exact ⟨by simpa only [PyData.showable] using h1, by simpa only [PyData.leavesShort] using h2, by simp only [PyData.bulk]; omega, by simp only [PyData.depth]; omega⟩
theorem nice_lst {b k n : Nat} {xs : List PyData} (h : ∀ x ∈ xs, Nice b k x) (hn : xs.length * (b + 1) ≤ n) : Nice n (k + 1) (.list xs) := by
  obtain ⟨h1, h2, h3, h4⟩ := nice_all h
  exact ⟨by simpa only [PyData.showable] using h1, by simpa only [PyData.leavesShort] using h2, by simp only [PyData.bulk]; omega, by simp only [PyData.depth]; omega⟩
def deedD (d : Deed) : PyData := .tuple (.str d.1 :: d.2.map PyData.int)
def rowD (m : Int) (ds : List Deed) (o : Int) : PyData := .tuple [.int m, .tuple (ds.map deedD), .int o]
theorem fw_short : ∀ p ∈ fwL, p.1.cps.size ≤ 5 ∧ (p.1.cps.toList.all fun c => decide (c < 16 ^ 8)) = true ∧ p.2 ≤ 2 := by decide +kernel
theorem nice_deed {m : Int} {d : Deed} (h : DeedOk m d) (hm : m ≤ 100) : Nice 18 1 (deedD d) := by
  obtain ⟨h1, h2, h3⟩ := fw_short _ h.word
  refine nice_tup (b := 5) (k := 0) (fun x hx => ?_) ?_
  · rcases List.mem_cons.mp hx with rfl | hx
    · exact nice_str h1 h2
    · obtain ⟨i, hi, rfl⟩ := List.mem_map.mp hx
      obtain ⟨i0, i1⟩ := h.ahead i hi
      exact (nice_int (by omega)).mono (by decide) (by decide)
  · rw [List.length_cons, List.length_map]
    have : (d.2.length : Int) ≤ 2 := h3
    omega
theorem nice_row {m o : Int} {ds : List Deed} (h : RowOk m ds o) : Nice 459 3 (rowD m ds o) := by
  have hm := h.m1
  have hm3 := h.m3
  have hl := h.len
  have ho := h.o0
  have ho1 := h.o1
  refine nice_tup (b := 152) (k := 2) (fun x hx => ?_) (by simp only [List.length_cons, List.length_nil]; decide)
  simp only [List.mem_cons, List.not_mem_nil, or_false] at hx
  rcases hx with rfl | rfl | rfl
  · exact (nice_int (by omega)).mono (by decide) (by decide)
  · refine nice_tup (b := 18) (k := 1) (fun x hx => ?_) ?_
    · obtain ⟨d, hd, rfl⟩ := List.mem_map.mp hx
      obtain ⟨k, hk⟩ := List.mem_iff_getElem?.mp hd
      have hk1 := (List.getElem?_eq_some_iff.mp hk).1
      exact nice_deed (h.deeds.each k d hk) (by omega)
    · rw [List.length_map]
      omega
  · exact (nice_int (by omega)).mono (by decide) (by decide)
/-! ### what the row reads -/
section
variable {X : Cx}
theorem rz_ints (H : Hp) : ∀ l : List Int, Paired (Rz X H) (l.map V.int) (l.map PyData.int)
  | [] => .nil
  | i :: l => .cons (Rz.int H i) (rz_ints H l)
theorem rz_deed {H : Hp} {r : Addr} {d : Deed} (h : H r = some (.tup (dV d))) : Rz X H (.ref r) (deedD d) := Rz.tup (SqT.of h) (.cons (Rz.str H _) (rz_ints H _))
theorem rz_deeds {H : Hp} : ∀ {rs : List Addr} {ds : List Deed}, DsAt H rs ds → Paired (Rz X H) (rs.map V.ref) (ds.map deedD)
  | _, _, .nil => .nil
  | _, _, .cons h t => .cons (rz_deed h) (rz_deeds t)
theorem rz_row {H : Hp} {R : Addr} {m o : Int} {ds : List Deed} (h : RowAt H R m ds o) : Rz X H (.ref R) (rowD m ds o) := by
  obtain ⟨D, rs, e1, e2, e3⟩ := h
  exact Rz.tup (SqT.of e1) (.cons (Rz.int H m) (.cons (Rz.tup (SqT.of e2) (rz_deeds e3)) (.cons (Rz.int H o) .nil)))
/-- a dict of texts and ints -/
abbrev siK (es : List (Str × Int)) : List (Key × V) := es.map fun p => (Sum.inr p.1, .int p.2)
theorem si_reads {prog : Program} {w : World} {h : Heap} : ∀ (es : List (Str × Int)) (vs : List (Key × Value)) (en : List DictEntry), KV (siK es) vs → Pairs (mixKind prog w) en vs →
    ReadsAll h (en.map (·.key)) ((es.map fun p => (PyData.str p.1, PyData.int p.2)).map (·.1)) [] ∧ ReadsAll h (en.map (·.val)) ((es.map fun p => (PyData.str p.1, PyData.int p.2)).map (·.2)) []
  | [], _, _, .nil, .nil => ⟨.nil, .nil⟩
  | (x, i) :: es, _, _, .cons hh t, .cons hk hv hp => by
    obtain ⟨h1, h2⟩ := si_reads es _ _ t hp
    obtain ⟨k1, t1, e1⟩ := hh
    rw [← k1] at hk
    obtain ⟨t2, e2⟩ := Value.isStrOf_shape (x := x) hk
    refine ⟨?_, ?_⟩
    · simp only [List.map_cons]
      rw [e2]
      exact ReadsAll.cons (as := []) (Reads.str x t2) h1
    · simp only [List.map_cons]
      rw [hv, e1]
      exact ReadsAll.cons (as := []) (Reads.int i t1) h2
theorem rz_dict {H : Hp} {C : Addr} {es : List (Str × Int)} (h : H C = some (.dK (siK es))) : Rz X H (.ref C) (.dict (es.map fun p => (PyData.str p.1, PyData.int p.2))) := by
  intro pins σ s u I r
  obtain rfl : u = Value.ref C := r
  obtain ⟨_, hs, vs, hkv, o, en, ep, e1, e2, e3, e4, e5, e6⟩ := I.hok C _ h
  obtain ⟨r1, r2⟩ := si_reads (prog := X.prog) (w := X.w) (h := s.heap) es vs _ hkv e5
  refine ⟨_, Reads.dict e1 e2.1 e3 r1 r2, ?_⟩
  intro z
  simp only [List.append_nil, List.mem_cons, List.not_mem_nil, or_false] at z
  rw [← z] at hs
  simp at hs
end
theorem nice_dict {n : Nat} : ∀ {es : List (Str × Int)}, (∀ p ∈ es, p.1.cps.size ≤ 5 ∧ (p.1.cps.toList.all fun c => decide (c < 16 ^ 8)) = true ∧ p.2.natAbs < 10 ^ 20) → es.length * 7 ≤ n →
    Nice n 1 (.dict (es.map fun p => (PyData.str p.1, PyData.int p.2))) := by
  intro es h hn
  have key : ∀ es : List (Str × Int), (∀ p ∈ es, p.1.cps.size ≤ 5 ∧ (p.1.cps.toList.all fun c => decide (c < 16 ^ 8)) = true ∧ p.2.natAbs < 10 ^ 20) →
      PyData.showableKv (es.map fun p => (PyData.str p.1, PyData.int p.2)) = true ∧ PyData.leavesShortKv 21 (es.map fun p => (PyData.str p.1, PyData.int p.2)) = true ∧ PyData.bulkKv (es.map fun p => (PyData.str p.1, PyData.int p.2)) ≤ es.length * 7 ∧ PyData.depthKv (es.map fun p => (PyData.str p.1, PyData.int p.2)) = 0 := by
    intro es
    induction es with
    | nil => intro _; exact ⟨by simp only [List.map_nil, PyData.showableKv], by simp only [List.map_nil, PyData.leavesShortKv], by simp only [List.map_nil, PyData.bulkKv, Nat.zero_le], by simp only [List.map_nil, PyData.depthKv]⟩
    | cons p es ih =>
      intro h
      obtain ⟨h1, h2, h3, h4⟩ := ih fun q hq => h q (List.mem_cons_of_mem _ hq)
      obtain ⟨a, b, c⟩ := h p List.mem_cons_self
      obtain ⟨i1, i2, i3, i4⟩ := nice_int c
      obtain ⟨s1, s2, s3, s4⟩ := nice_str a b
      refine ⟨by simp only [List.map_cons, PyData.showableKv, i1, s1, h1, Bool.and_self], by simp only [List.map_cons, PyData.leavesShortKv, i2, s2, h2, Bool.and_self], ?_, ?_⟩
      · simp only [List.map_cons, PyData.bulkKv, List.length_cons]
        omega
      · simp only [List.map_cons, PyData.depthKv]
        omega
  obtain ⟨h1, h2, h3, h4⟩ := key es h
  exact ⟨by simpa only [PyData.showable] using h1, by simpa only [PyData.leavesShort] using h2, by simp only [PyData.bulk]; omega, by simp only [PyData.depth]; omega⟩
/-! ### values of rows -/
theorem strEq {x y : Str} (h : decide (V.str x = V.str y) = true) : x = y := V.str.inj (of_decide_eq_true h)
theorem strNe {x y : Str} (h : ¬ decide (V.str x = V.str y) = true) : ¬ x = y := fun e => h (decide_eq_true (congrArg V.str e))
def argAt (d : Deed) (told : List Int) (k : Nat) : Int := told.getD (d.2.getD k 0).toNat 0
def dvalue (x : Str) (A B size : Int) : Int :=
  if x = "none" then 0 else if x = "one" then 1 else if x = "all" then size - 1 else if x = "not" then size - 1 - A else if x = "neg" then -A else if x = "twice" then A + A
  else if x = "and" then Builtin.bitAnd A B else if x = "or" then Builtin.bitOr A B else if x = "xor" then Builtin.bitXor A B else if x = "add" then A + B else A - B
def dval (size : Int) (d : Deed) (told : List Int) : Int := dvalue d.1 (argAt d told 0) (argAt d told 1) size % size
def vals (size : Int) : List Deed → List Int → List Int
  | [], told => told
  | d :: ds, told => vals size ds (told ++ [dval size d told])
theorem vals_append (size : Int) : ∀ (l1 l2 : List Deed) (t : List Int), vals size (l1 ++ l2) t = vals size l2 (vals size l1 t)
  | [], _, _ => rfl
  | d :: l1, l2, t => vals_append size l1 l2 (t ++ [dval size d t])
theorem vals_len {size : Int} : ∀ (ds : List Deed) (t : List Int), (vals size ds t).length = t.length + ds.length
  | [], _ => rfl
  | d :: ds, t => by
    show (vals size ds (t ++ [dval size d t])).length = _
    rw [vals_len ds, List.length_append, List.length_cons, List.length_cons, List.length_nil]
    omega
theorem vals_next {size : Int} {ds : List Deed} {i : Nat} {d : Deed} {t : List Int} (h : ds[i]? = some d) : vals size (ds.take (i + 1)) t = vals size (ds.take i) t ++ [dval size d (vals size (ds.take i) t)] := by
  rw [List.take_add_one, h, vals_append]
  rfl
theorem atI_ints {l : List Int} {o : Int} (h0 : 0 ≤ o) (h1 : o < l.length) : atI (l.map V.int) o = some (.int (l.getD o.toNat 0)) := by
  obtain ⟨k, rfl⟩ := Int.eq_ofNat_of_zero_le h0
  have hk : k < l.length := by omega
  apply atI_nat
  rw [List.getElem?_map, List.getElem?_eq_getElem hk, Int.toNat_natCast, List.getD_eq_getElem?_getD, List.getElem?_eq_getElem hk]
  rfl
theorem fw_one : ∀ p ∈ fwL, ¬ p.1 = "none" → ¬ p.1 = "one" → ¬ p.1 = "all" → 1 ≤ p.2 := by decide +kernel
theorem fw_two' : ∀ p ∈ fwL, (decide (p.1 ∈ (["none", "one", "all", "not", "neg", "twice"] : List Str)) || decide (2 ≤ p.2)) = true := by decide +kernel
theorem fw_two (p : Str × Int) (h : p ∈ fwL) (n1 : ¬ p.1 = "none") (n2 : ¬ p.1 = "one") (n3 : ¬ p.1 = "all") (n4 : ¬ p.1 = "not") (n5 : ¬ p.1 = "neg") (n6 : ¬ p.1 = "twice") : 2 ≤ p.2 := by
  have e := fw_two' p h
  rw [Bool.or_eq_true] at e
  rcases e with e | e
  · have e2 := of_decide_eq_true e
    simp only [List.mem_cons, List.not_mem_nil, or_false] at e2
    rcases e2 with e2 | e2 | e2 | e2 | e2 | e2
    · exact absurd e2 n1
    · exact absurd e2 n2
    · exact absurd e2 n3
    · exact absurd e2 n4
    · exact absurd e2 n5
    · exact absurd e2 n6
  · exact of_decide_eq_true e
theorem arg_of {d : Deed} {told : List Int} (h : DeedOk told.length d) {k : Nat} (hk : k < d.2.length) : ∃ i, d.2[k]? = some i ∧ 0 ≤ i ∧ atI (told.map V.int) i = some (.int (argAt d told k)) := by
  have hg := List.getElem?_eq_getElem hk
  obtain ⟨i0, i1⟩ := h.ahead _ (List.getElem_mem hk)
  refine ⟨d.2[k], hg, i0, ?_⟩
  rw [atI_ints i0 i1]
  unfold argAt
  rw [List.getD_eq_getElem?_getD (l := d.2), hg]
  rfl
theorem arg1 {d : Deed} {told : List Int} (h : DeedOk told.length d) (n1 : ¬ d.1 = "none") (n2 : ¬ d.1 = "one") (n3 : ¬ d.1 = "all") : ∃ i, d.2[0]? = some i ∧ 0 ≤ i ∧ atI (told.map V.int) i = some (.int (argAt d told 0)) :=
  arg_of h (by have := fw_one _ h.word n1 n2 n3; show 0 < d.2.length; have e : (1 : Int) ≤ (d.2.length : Int) := this; omega)
theorem arg2 {d : Deed} {told : List Int} (h : DeedOk told.length d) (n1 : ¬ d.1 = "none") (n2 : ¬ d.1 = "one") (n3 : ¬ d.1 = "all") (n4 : ¬ d.1 = "not") (n5 : ¬ d.1 = "neg") (n6 : ¬ d.1 = "twice") :
    ∃ i, d.2[1]? = some i ∧ 0 ≤ i ∧ atI (told.map V.int) i = some (.int (argAt d told 1)) :=
  arg_of h (by have := fw_two _ h.word n1 n2 n3 n4 n5 n6; show 1 < d.2.length; have e : (2 : Int) ≤ (d.2.length : Int) := this; omega)
/-! ### the low bits of values -/
theorem pw_cast (n : Nat) : (2 : Int) ^ n = ((2 ^ n : Nat) : Int) := (PySem.W.kbt_cast n).symm
theorem pw_le {n k : Nat} (h : n ≤ k) : (2 : Int) ^ n ≤ 2 ^ k := by
  rw [pw_cast, pw_cast]
  exact Int.ofNat_le.mpr (Nat.pow_le_pow_right (by decide) h)
theorem pw_pos (n : Nat) : (0 : Int) < 2 ^ n := Int.pow_pos (by decide)
theorem castMod (a n : Nat) : ((a : Int) % 2 ^ n) = ((a % 2 ^ n : Nat) : Int) := by rw [pw_cast, Int.natCast_emod]
theorem low_and {A B : Int} (n : Nat) (ha : 0 ≤ A) (hb : 0 ≤ B) : Builtin.bitAnd (A % 2 ^ n) (B % 2 ^ n) % 2 ^ n = Builtin.bitAnd A B % 2 ^ n := by
  obtain ⟨a, rfl⟩ := Int.eq_ofNat_of_zero_le ha
  obtain ⟨b, rfl⟩ := Int.eq_ofNat_of_zero_le hb
  rw [castMod, castMod, bitAnd_pp (Int.natCast_nonneg _) (Int.natCast_nonneg _), bitAnd_pp (Int.natCast_nonneg _) (Int.natCast_nonneg _), castMod, castMod]
  simp only [Int.toNat_natCast]
  rw [Nat.and_mod_two_pow, Nat.and_mod_two_pow, Nat.mod_mod, Nat.mod_mod]
theorem low_or {A B : Int} (n : Nat) (ha : 0 ≤ A) (hb : 0 ≤ B) : Builtin.bitOr (A % 2 ^ n) (B % 2 ^ n) % 2 ^ n = Builtin.bitOr A B % 2 ^ n := by
  obtain ⟨a, rfl⟩ := Int.eq_ofNat_of_zero_le ha
  obtain ⟨b, rfl⟩ := Int.eq_ofNat_of_zero_le hb
  rw [castMod, castMod, bitOr_nn (Int.natCast_nonneg _) (Int.natCast_nonneg _), bitOr_nn (Int.natCast_nonneg _) (Int.natCast_nonneg _), castMod, castMod]
  simp only [Int.toNat_natCast]
  rw [Nat.or_mod_two_pow, Nat.or_mod_two_pow, Nat.mod_mod, Nat.mod_mod]
theorem low_xor {A B : Int} (n : Nat) (ha : 0 ≤ A) (hb : 0 ≤ B) : Builtin.bitXor (A % 2 ^ n) (B % 2 ^ n) % 2 ^ n = Builtin.bitXor A B % 2 ^ n := by
  obtain ⟨a, rfl⟩ := Int.eq_ofNat_of_zero_le ha
  obtain ⟨b, rfl⟩ := Int.eq_ofNat_of_zero_le hb
  rw [castMod, castMod, Bits.bitXor_pp (Int.natCast_nonneg _) (Int.natCast_nonneg _), Bits.bitXor_pp (Int.natCast_nonneg _) (Int.natCast_nonneg _), castMod, castMod]
  simp only [Int.toNat_natCast]
  rw [Nat.xor_mod_two_pow, Nat.xor_mod_two_pow, Nat.mod_mod, Nat.mod_mod]
theorem pw_dvd {n k : Nat} (h : n ≤ k) : (2 : Int) ^ n ∣ 2 ^ k := ⟨2 ^ (k - n), by rw [← Int.pow_add]; congr 1; omega⟩
theorem emod_same {a b m : Int} (k : Int) (h : a - b = m * k) : a % m = b % m := Int.emod_eq_emod_iff_emod_sub_eq_zero.mpr (by rw [h]; exact Int.mul_emod_right m k)
theorem dvalue_low' {x : Str} {N c qa qb ra rb A B : Int} (ea : N * qa + ra = A) (eb : N * qb + rb = B) (l1 : Builtin.bitAnd ra rb % N = Builtin.bitAnd A B % N) (l2 : Builtin.bitOr ra rb % N = Builtin.bitOr A B % N)
    (l3 : Builtin.bitXor ra rb % N = Builtin.bitXor A B % N) : dvalue x ra rb N % N = dvalue x A B (N * c) % N := by
  unfold dvalue
  by_cases h1 : x = "none"
  · rw [if_pos h1, if_pos h1]
  rw [if_neg h1, if_neg h1]
  by_cases h2 : x = "one"
  · rw [if_pos h2, if_pos h2]
  rw [if_neg h2, if_neg h2]
  by_cases h3 : x = "all"
  · rw [if_pos h3, if_pos h3]
    exact emod_same (1 - c) (by rw [Int.mul_sub, Int.mul_one]; omega)
  rw [if_neg h3, if_neg h3]
  by_cases h4 : x = "not"
  · rw [if_pos h4, if_pos h4]
    exact emod_same (1 - c + qa) (by rw [Int.mul_add, Int.mul_sub, Int.mul_one]; omega)
  rw [if_neg h4, if_neg h4]
  by_cases h5 : x = "neg"
  · rw [if_pos h5, if_pos h5]
    exact emod_same qa (by omega)
  rw [if_neg h5, if_neg h5]
  by_cases h6 : x = "twice"
  · rw [if_pos h6, if_pos h6]
    exact emod_same (-qa - qa) (by rw [Int.mul_sub, Int.mul_neg]; omega)
  rw [if_neg h6, if_neg h6]
  by_cases h7 : x = "and"
  · rw [if_pos h7, if_pos h7]
    exact l1
  rw [if_neg h7, if_neg h7]
  by_cases h8 : x = "or"
  · rw [if_pos h8, if_pos h8]
    exact l2
  rw [if_neg h8, if_neg h8]
  by_cases h9 : x = "xor"
  · rw [if_pos h9, if_pos h9]
    exact l3
  rw [if_neg h9, if_neg h9]
  by_cases h10 : x = "add"
  · rw [if_pos h10, if_pos h10]
    exact emod_same (-qa - qb) (by rw [Int.mul_sub, Int.mul_neg]; omega)
  rw [if_neg h10, if_neg h10]
  exact emod_same (qb - qa) (by rw [Int.mul_sub]; omega)
theorem dvalue_low {x : Str} {A B : Int} {n k : Nat} (hA : 0 ≤ A) (hB : 0 ≤ B) (h : n ≤ k) : dvalue x (A % 2 ^ n) (B % 2 ^ n) (2 ^ n) % 2 ^ n = dvalue x A B (2 ^ k) % 2 ^ n := by
  obtain ⟨c, hc⟩ := pw_dvd h
  rw [hc]
  exact dvalue_low' (Int.mul_ediv_add_emod A (2 ^ n)) (Int.mul_ediv_add_emod B (2 ^ n)) (low_and n hA hB) (low_or n hA hB) (low_xor n hA hB)
theorem getD_low (N : Int) (l : List Int) (i : Nat) : (l.map (· % N)).getD i 0 = l.getD i 0 % N := by
  rw [List.getD_eq_getElem?_getD, List.getD_eq_getElem?_getD, List.getElem?_map]
  cases l[i]? with
  | none => exact (Int.zero_emod N).symm
  | some y => rfl
theorem arg_nn {told : List Int} (h : ∀ x ∈ told, 0 ≤ x) (d : Deed) (j : Nat) : 0 ≤ argAt d told j := by
  unfold argAt
  rw [List.getD_eq_getElem?_getD]
  cases e : told[(d.2.getD j 0).toNat]? with
  | none => exact Int.le_refl 0
  | some y => exact h y (List.mem_of_getElem? e)
theorem dval_low {d : Deed} {told : List Int} {n k : Nat} (h : ∀ x ∈ told, 0 ≤ x) (hk : n ≤ k) : dval (2 ^ n) d (told.map (· % 2 ^ n)) = dval (2 ^ k) d told % 2 ^ n := by
  unfold dval
  have e : ∀ j, argAt d (told.map (· % 2 ^ n)) j = argAt d told j % 2 ^ n := fun j => getD_low _ _ _
  rw [e, e, dvalue_low (arg_nn h d 0) (arg_nn h d 1) hk, Int.emod_emod_of_dvd _ (pw_dvd hk)]
theorem vals_low {n k : Nat} (hk : n ≤ k) : ∀ (ds : List Deed) (told : List Int), (∀ x ∈ told, 0 ≤ x) → vals (2 ^ n) ds (told.map (· % 2 ^ n)) = (vals (2 ^ k) ds told).map (· % 2 ^ n)
  | [], _, _ => rfl
  | d :: ds, told, h => by
    show vals (2 ^ n) ds (told.map (· % 2 ^ n) ++ [dval (2 ^ n) d (told.map (· % 2 ^ n))]) = (vals (2 ^ k) ds (told ++ [dval (2 ^ k) d told])).map (· % 2 ^ n)
    rw [dval_low h hk, ← vals_low hk ds, List.map_append]
    · rfl
    · intro x hx
      rcases List.mem_append.mp hx with hx | hx
      · exact h x hx
      · rw [List.mem_singleton.mp hx]
        exact Int.emod_nonneg _ (by have := pw_pos k; omega)
theorem vals_range {size : Int} (hs : 0 < size) : ∀ (ds : List Deed) (told : List Int), (∀ x ∈ told, 0 ≤ x ∧ x < size) → ∀ x ∈ vals size ds told, 0 ≤ x ∧ x < size
  | [], _, h => h
  | d :: ds, told, h => by
    refine vals_range hs ds (told ++ [dval size d told]) fun x hx => ?_
    rcases List.mem_append.mp hx with hx | hx
    · exact h x hx
    · rw [List.mem_singleton.mp hx]
      exact ⟨Int.emod_nonneg _ (by omega), Int.emod_lt_of_pos _ hs⟩
/-! ### lists of ints compared -/
theorem eqv_ints : ∀ l : List Int, PyData.eqv (.list (l.map PyData.int)) (.list (l.map PyData.int)) = true := fun l => SeqAt.eqv_refl _ (SeqAt.canLay_of_shaped (shaped_ints l))
theorem dget_at {H : Hp} {a : Addr} {kvs : List (Key × V)} {k : Key} {v : V} (e : H a = some (.dK kvs)) (h : valV kvs k = some v) : DGet H a (kV k) (some v) := h ▸ DGet.k e
theorem fw_cases {x : Str} {n : Nat} (h : (x, (n : Int)) ∈ fwL) : (n = 0 ∧ (x = "none" ∨ x = "one" ∨ x = "all")) ∨ (n = 1 ∧ (x = "not" ∨ x = "neg" ∨ x = "twice")) ∨ (n = 2 ∧ (x = "and" ∨ x = "or" ∨ x = "xor" ∨ x = "add" ∨ x = "sub")) := by
  unfold fwL at h
  simp only [List.mem_cons, List.not_mem_nil, or_false, Prod.mk.injEq] at h
  rcases h with h | h | h | h | h | h | h | h | h | h | h
  · exact .inl ⟨by omega, .inl h.1⟩
  · exact .inl ⟨by omega, .inr (.inl h.1)⟩
  · exact .inl ⟨by omega, .inr (.inr h.1)⟩
  · exact .inr (.inl ⟨by omega, .inl h.1⟩)
  · exact .inr (.inl ⟨by omega, .inr (.inl h.1)⟩)
  · exact .inr (.inl ⟨by omega, .inr (.inr h.1)⟩)
  · exact .inr (.inr ⟨by omega, .inl h.1⟩)
  · exact .inr (.inr ⟨by omega, .inr (.inl h.1)⟩)
  · exact .inr (.inr ⟨by omega, .inr (.inr (.inl h.1))⟩)
  · exact .inr (.inr ⟨by omega, .inr (.inr (.inr (.inl h.1)))⟩)
  · exact .inr (.inr ⟨by omega, .inr (.inr (.inr (.inr h.1)))⟩)
theorem and_lt {A B : Int} {n : Nat} (a0 : 0 ≤ A) (a1 : A < 2 ^ n) (b0 : 0 ≤ B) : Builtin.bitAnd A B % 2 ^ n = Builtin.bitAnd A B := by
  obtain ⟨a, rfl⟩ := Int.eq_ofNat_of_zero_le a0
  obtain ⟨b, rfl⟩ := Int.eq_ofNat_of_zero_le b0
  rw [bitAnd_pp (Int.natCast_nonneg _) (Int.natCast_nonneg _), castMod]
  rw [pw_cast] at a1
  simp only [Int.toNat_natCast]
  rw [Nat.mod_eq_of_lt (Nat.lt_of_le_of_lt Nat.and_le_left (by omega))]
theorem or_lt {A B : Int} {n : Nat} (a0 : 0 ≤ A) (a1 : A < 2 ^ n) (b0 : 0 ≤ B) (b1 : B < 2 ^ n) : Builtin.bitOr A B % 2 ^ n = Builtin.bitOr A B := by
  obtain ⟨a, rfl⟩ := Int.eq_ofNat_of_zero_le a0
  obtain ⟨b, rfl⟩ := Int.eq_ofNat_of_zero_le b0
  rw [bitOr_nn (Int.natCast_nonneg _) (Int.natCast_nonneg _), castMod]
  rw [pw_cast] at a1 b1
  simp only [Int.toNat_natCast]
  rw [Nat.mod_eq_of_lt (Nat.or_lt_two_pow (by omega) (by omega))]
theorem xor_lt {A B : Int} {n : Nat} (a0 : 0 ≤ A) (a1 : A < 2 ^ n) (b0 : 0 ≤ B) (b1 : B < 2 ^ n) : Builtin.bitXor A B % 2 ^ n = Builtin.bitXor A B := by
  obtain ⟨a, rfl⟩ := Int.eq_ofNat_of_zero_le a0
  obtain ⟨b, rfl⟩ := Int.eq_ofNat_of_zero_le b0
  rw [Bits.bitXor_pp (Int.natCast_nonneg _) (Int.natCast_nonneg _), castMod]
  rw [pw_cast] at a1 b1
  simp only [Int.toNat_natCast]
  rw [Nat.mod_eq_of_lt (Nat.xor_lt_two_pow (by omega) (by omega))]
/-! ### all but the first -/
theorem sIx_one (x : V) (xs : List V) : HT.sIx (x :: xs).length 0 (some 1) = 1 := by
  have e : HT.sIx (x :: xs).length 0 (some 1) = min 1 (x :: xs).length := HT.sIx_nat (x :: xs).length 0 1
  rw [e, List.length_cons]
  omega
theorem cutTail (x : V) (xs : List V) : cutV (x :: xs) (some 1) none = xs := by
  have h2 : HT.sIx (x :: xs).length (x :: xs).length none = (x :: xs).length := HT.sIx_none _ _
  unfold cutV
  rw [sIx_one, h2]
  simp
theorem notWhole (x : V) (xs : List V) : ¬ (HT.sIx (x :: xs).length 0 (some 1) = 0 ∧ HT.sIx (x :: xs).length (x :: xs).length none = (x :: xs).length) := by
  rw [sIx_one]
  exact fun h => absurd h.1 (by decide)
theorem intEq {x y : Int} (h : decide (V.int x = V.int y) = true) : x = y := V.int.inj (of_decide_eq_true h)
theorem intNe {x y : Int} (h : ¬ decide (V.int x = V.int y) = true) : ¬ x = y := fun e => h (decide_eq_true (congrArg V.int e))
/-! ### t + u of two tuples at hand, whatever they hold -/
section
variable {X : Cx}
def rCatZ : R2 := fun x y H Q => ∃ a b xs ys, x = .ref a ∧ y = .ref b ∧ H a = some (.tup xs) ∧ H b = some (.tup ys) ∧ xs.length + ys.length ≤ sizeLine ∧ ∀ p H2, Same H H2 → H2 p = some (.tup (xs ++ ys)) → Q (.ref p) H2
theorem op_catZ : OpR X (binaryOp .Add) rCatZ := by
  intro pins s σ H x y v u Q I rx ry h
  obtain ⟨a, b, xs, ys, rfl, rfl, ha, hb, hz, q⟩ := h
  refine op_catA pins s σ H _ _ v u Q I rx ry ⟨a, b, xs, ys, rfl, rfl, SqT.of ha, SqT.of hb, hz, fun e => ?_, fun _ e => ?_, fun _ _ p hp => ?_⟩
  · subst e
    exact q b H (Same.refl H) hb
  · subst e
    exact q a H (Same.refl H) (by rw [List.append_nil]; exact ha)
  · exact q p _ (same_new hp) upd_same
end
theorem awAppend {α β : Type} {F : α → β → Prop} : ∀ {l k : List α} {l2 k2 : List β}, Paired F l l2 → Paired F k k2 → Paired F (l ++ k) (l2 ++ k2)
  | _, _, _, _, .nil, h => h
  | _, _, _, _, .cons r t, h => .cons r (awAppend t h)
theorem dsOk_append {m t : Int} {ds es : List Deed} (h : DsOk m ds) (k : DsOk t es) (e : t = m + ds.length) : DsOk m (ds ++ es) := by
  constructor
  intro i d hi
  by_cases hl : i < ds.length
  · rw [List.getElem?_append_left hl] at hi
    exact h.each i d hi
  · rw [List.getElem?_append_right (by omega)] at hi
    have := k.each _ d hi
    rw [e] at this
    have e2 : m + (ds.length : Int) + ((i - ds.length : Nat) : Int) = m + i := by omega
    rw [e2] at this
    exact this
/-- all but one stands as it stood -/
def But (f : Addr) (H H2 : Hp) : Prop := ∀ b o, b ≠ f → H b = some o → H2 b = some o
theorem But.trans {f : Addr} {H H1 H2 : Hp} (a : But f H H1) (b : But f H1 H2) : But f H H2 := fun c o n e => b c o n (a c o n e)
theorem But.same {f : Addr} {H H2 : Hp} (s : Same H H2) : But f H H2 := fun b o _ e => s b o e
theorem But.put {f : Addr} {H : Hp} {o : HO} : But f H (upd H f o) := fun b u n e => by
  rw [upd_ne n]
  exact e
theorem But.tups {f : Addr} {H H2 : Hp} {xs : List V} (h : But f H H2) (e : H f = some (.lst xs)) : TupsStay H H2 := fun b ys z => h b _ (ne_of z e (fun q => nomatch q)) z
/-! ### the tape -/
def TP (H : Hp) (a : Addr) : Prop := ∃ x y : Int, H a = some (.lst [.int x, .int y])
theorem TP.same {H H2 : Hp} {a : Addr} (h : TP H a) (s : Same H H2) : TP H2 a := by
  obtain ⟨x, y, e⟩ := h
  exact ⟨x, y, s _ _ e⟩
theorem TP.ne_new {H : Hp} {a p : Addr} (h : TP H a) (e : H p = none) : p ≠ a := by
  obtain ⟨x, y, e1⟩ := h
  exact (ne_of_none e1 e).symm
theorem TP.upd {H : Hp} {a p : Addr} {o : HO} (h : TP H a) (n : p ≠ a) : TP (upd H p o) a := by
  obtain ⟨x, y, e1⟩ := h
  exact ⟨x, y, by rw [upd_ne n.symm]; exact e1⟩
theorem But.tape {a : Addr} {H H2 : Hp} (h : But a H H2) (t : TP H a) : TupsStay H H2 := by
  obtain ⟨x, y, e⟩ := t
  exact h.tups e
theorem But.refl (a : Addr) (H : Hp) : But a H H := fun _ _ _ e => e
theorem atI_in {α : Type} {l : List α} {i : Int} (h0 : 0 ≤ i) (h1 : i < l.length) : ∃ v, atI l i = some v ∧ v ∈ l := by
  obtain ⟨k, rfl⟩ := Int.eq_ofNat_of_zero_le h0
  have hk : k < l.length := by omega
  exact ⟨l[k], atI_nat (List.getElem?_eq_getElem hk), List.getElem_mem hk⟩
/-! ### texts in written tuples -/
theorem inS (x : Str) : ∀ l : List Str, inV (.str x) (l.map V.str) = decide (x ∈ l)
  | [] => rfl
  | y :: l => by
    have ih := inS x l
    show (eqV (.str y) (.str x) || inV (.str x) (l.map V.str)) = _
    rw [ih]
    by_cases h : x = y
    · subst h
      simp [eqV]
    · have h2 : ¬ y = x := fun e => h e.symm
      simp [eqV, h, h2]
def tw12 : List Str := ["add", "sub", "and", "xor", "or", "not", "twice", "neg", "all", "one", "none", "add"]
def twC : List Str := ["add", "sub", "twice", "neg", "one"]
theorem tw_zero : ∀ x ∈ (["all", "one", "none"] : List Str), (x, (0 : Int)) ∈ fwL := by decide +kernel
theorem tw_one : ∀ x ∈ (["not", "twice", "neg"] : List Str), (x, (1 : Int)) ∈ fwL := by decide +kernel
theorem tw_two : ∀ x ∈ tw12, x ∈ (["all", "one", "none"] : List Str) ∨ x ∈ (["not", "twice", "neg"] : List Str) ∨ (x, (2 : Int)) ∈ fwL := by decide +kernel
theorem tw_four : ∀ x ∈ (["and", "or", "xor", "not"] : List Str), x ∈ tw12 := by decide +kernel
theorem mem_strs {v : V} {l : List Str} (h : v ∈ l.map V.str) : ∃ x, x ∈ l ∧ v = .str x := by
  obtain ⟨x, hx, e⟩ := List.mem_map.mp h
  exact ⟨x, hx, e.symm⟩
/-! ### bits and carries of rows -/
def fcD (d : Deed) : Int := if d.1 ∈ (["neg", "one"] : List Str) then 1 else 0
def dbit (x : Str) (a b c : Int) : Int :=
  if x = "none" then 0 else if x = "all" then 1 else if x = "one" then c else if x = "twice" then c else if x = "not" then 1 - a else if x = "neg" then Builtin.bitXor (1 - a) c
  else if x = "and" then Builtin.bitAnd a b else if x = "or" then Builtin.bitOr a b else if x = "xor" then Builtin.bitXor a b else Builtin.bitXor (Builtin.bitXor a b) c
def dcar (x : Str) (a b c : Int) : Int :=
  if x = "neg" then Builtin.bitAnd (1 - a) c else if x = "twice" then a else if x = "add" then (a + b + c) / 2 else if x = "sub" then (1 - a + b + c) / 2 else 0
def dbitAt (d : Deed) (c : Int) (told : List Int) : Int := dbit d.1 (argAt d told 0) (argAt d told 1) c
def dcarAt (d : Deed) (c : Int) (told : List Int) : Int := dcar d.1 (argAt d told 0) (argAt d told 1) c
def bts : List Deed → List Int → List Int → List Int
  | d :: ds, c :: cs, told => bts ds cs (told ++ [dbitAt d c told])
  | _, _, told => told
def nxt (ds : List Deed) (cs told : List Int) : List Int := List.zipWith (fun d c => dcarAt d c told) ds cs
abbrev Bit (x : Int) : Prop := x = 0 ∨ x = 1
theorem bit0 : Bit 0 := .inl rfl
theorem bit1 : Bit 1 := .inr rfl
theorem dbit_bit {x : Str} {a b c : Int} (ha : Bit a) (hb : Bit b) (hc : Bit c) : Bit (dbit x a b c) := by
  have n1 : Bit (1 - a) := by rcases ha with rfl | rfl <;> simp [Bit]
  have hx : ∀ {p q : Int}, Bit p → Bit q → Bit (Builtin.bitXor p q) := fun hp hq => by
    rcases hp with rfl | rfl <;> rcases hq with rfl | rfl <;> decide
  have hand : ∀ {p q : Int}, Bit p → Bit q → Bit (Builtin.bitAnd p q) := fun hp hq => by
    rcases hp with rfl | rfl <;> rcases hq with rfl | rfl <;> decide
  have hor : ∀ {p q : Int}, Bit p → Bit q → Bit (Builtin.bitOr p q) := fun hp hq => by
    rcases hp with rfl | rfl <;> rcases hq with rfl | rfl <;> decide
  unfold dbit
  split; · exact bit0
  split; · exact bit1
  split; · exact hc
  split; · exact hc
  split; · exact n1
  split; · exact hx n1 hc
  split; · exact hand ha hb
  split; · exact hor ha hb
  split; · exact hx ha hb
  exact hx (hx ha hb) hc
theorem dcar_bit {x : Str} {a b c : Int} (ha : Bit a) (hb : Bit b) (hc : Bit c) : Bit (dcar x a b c) := by
  unfold dcar
  split
  · rcases ha with rfl | rfl <;> rcases hc with rfl | rfl <;> decide
  split; · exact ha
  split
  · rcases ha with rfl | rfl <;> rcases hb with rfl | rfl <;> rcases hc with rfl | rfl <;> decide
  split
  · rcases ha with rfl | rfl <;> rcases hb with rfl | rfl <;> rcases hc with rfl | rfl <;> decide
  exact bit0
theorem argAt_bit {told : List Int} (h : ∀ x ∈ told, Bit x) (d : Deed) (j : Nat) : Bit (argAt d told j) := by
  unfold argAt
  rw [List.getD_eq_getElem?_getD]
  cases e : told[(d.2.getD j 0).toNat]? with
  | none => exact bit0
  | some y => exact h y (List.mem_of_getElem? e)
theorem bts_next : ∀ {ds : List Deed} {cs t : List Int} {i : Nat} {d : Deed} {c : Int}, ds[i]? = some d → cs[i]? = some c → bts (ds.take (i + 1)) (cs.take (i + 1)) t = bts (ds.take i) (cs.take i) t ++ [dbitAt d c (bts (ds.take i) (cs.take i) t)]
  | [], _, _, _, _, _, h, _ => by simp at h
  | _ :: _, [], _, _, _, _, _, h => by simp at h
  | e :: ds, g :: cs, t, 0, d, c, h, k => by
    simp only [List.getElem?_cons_zero, Option.some.injEq] at h k
    subst h k
    rfl
  | e :: ds, g :: cs, t, i + 1, d, c, h, k => by
    simp only [List.getElem?_cons_succ] at h k
    exact bts_next (t := t ++ [dbitAt e g t]) h k
theorem bts_len : ∀ {ds : List Deed} {cs t : List Int}, ds.length = cs.length → (bts ds cs t).length = t.length + ds.length
  | [], [], _, _ => rfl
  | [], _ :: _, _, h => by simp at h
  | _ :: _, [], _, h => by simp at h
  | d :: ds, c :: cs, t, h => by
    show (bts ds cs (t ++ [dbitAt d c t])).length = _
    rw [bts_len (by simpa using h), List.length_append, List.length_cons, List.length_cons, List.length_nil]
    omega
theorem bts_bits : ∀ {ds : List Deed} {cs t : List Int}, (∀ x ∈ t, Bit x) → (∀ x ∈ cs, Bit x) → ∀ x ∈ bts ds cs t, Bit x
  | [], cs, t, h, _ => by
    unfold bts
    exact h
  | _ :: _, [], t, h, _ => by
    unfold bts
    exact h
  | d :: ds, c :: cs, t, h, k => by
    refine bts_bits (ds := ds) (cs := cs) (t := t ++ [dbitAt d c t]) (fun x hx => ?_) fun x hx => k x (List.mem_cons_of_mem _ hx)
    rcases List.mem_append.mp hx with hx | hx
    · exact h x hx
    · rw [List.mem_singleton.mp hx]
      exact dbit_bit (argAt_bit h d 0) (argAt_bit h d 1) (k c List.mem_cons_self)
theorem nxt_len {ds : List Deed} {cs t : List Int} (h : ds.length = cs.length) : (nxt ds cs t).length = ds.length := by
  unfold nxt
  rw [List.length_zipWith]
  omega
theorem nxt_bits {ds : List Deed} {cs t : List Int} (h : ∀ x ∈ t, Bit x) (k : ∀ x ∈ cs, Bit x) : ∀ x ∈ nxt ds cs t, Bit x := by
  intro x hx
  unfold nxt at hx
  obtain ⟨i, hi⟩ := List.mem_iff_getElem?.mp hx
  rw [List.getElem?_zipWith] at hi
  cases e1 : ds[i]? with
  | none => rw [e1] at hi; simp at hi
  | some d =>
    cases e2 : cs[i]? with
    | none => rw [e1, e2] at hi; simp at hi
    | some c =>
      rw [e1, e2] at hi
      have := Option.some.inj hi
      rw [← this]
      exact dcar_bit (argAt_bit h d 0) (argAt_bit h d 1) (k c (List.mem_of_getElem? e2))
theorem nxt_next {ds : List Deed} {cs t : List Int} {i : Nat} {d : Deed} {c : Int} (h : ds[i]? = some d) (k : cs[i]? = some c) : (nxt ds cs t).take (i + 1) = (nxt ds cs t).take i ++ [dcarAt d c t] := by
  rw [List.take_add_one]
  unfold nxt
  rw [List.getElem?_zipWith, h, k]
  rfl
section
variable {K : PySem.W.Frag} {a b : Addr} {xs ys : List V}
theorem walk_zipT (hn : xs.length = ys.length) : Walk (RZ.ItzT K a b) xs.length (fun H => SqT K H a xs ∧ SqT K H b ys) (YPair (fun i => xs[i]?) (fun i => ys[i]?)) where
  goes := fun i H hi q => ⟨xs, ys, xs[i], ys[i]'(by omega), q.1, q.2, List.getElem?_eq_getElem hi, List.getElem?_eq_getElem (by omega)⟩
  stops := fun H q => ⟨xs, ys, q.1, q.2, .inl (Nat.le_refl _)⟩
  yields := fun i H v H2 hi q y => by
    obtain ⟨T, x, z, h1, h2, h3, h4, h5⟩ := y
    exact ⟨T, x, z, h1, h2, h3, h4 xs q.1, h5 ys q.2⟩
end
/-! ### own exceptions as values -/
section
variable {X : Cx} {K : PySem.W.Frag}
theorem kit_ref {D C : Addr} {b : Bool} (h1 : PySem.W.isClsIn K C = true) (h2 : PySem.W.typeIn K (.ref C) = some (.type "type")) (h3 : PySem.W.subIn K (.ref D) (.ref C) = some b) (h4 : PySem.W.subIn K (.ref C) (.ref C) = some true) : PySem.W.kitOne K (.ref D) (.ref C) = some b := by
  unfold PySem.W.kitOne
  by_cases e : D = C
  · subst e
    rw [h3] at h4
    rw [if_pos (by simp), h4]
  · rw [if_neg (by simpa using e)]
    have e1 : ((PySem.W.clsIn K C).isSome && PySem.W.typeIn K (.ref C) == some (.type "type")) = true := by
      have h1' : (PySem.W.clsIn K C).isSome = true := h1
      rw [h1', h2]
      rfl
    show (if ((PySem.W.clsIn K C).isSome && PySem.W.typeIn K (.ref C) == some (.type "type")) = true then PySem.W.subIn K (.ref D) (.ref C) else none) = some b
    rw [if_pos e1]
    exact h3
theorem kit_ve {D : Addr} {b : Bool} (h : PySem.W.subIn K (.ref D) (.type "ValueError") = some b) : PySem.W.kitOne K (.ref D) (.type "ValueError") = some b := by
  have e1 : PySem.W.kitMeta "ValueError" = true := by decide +kernel
  show (if PySem.W.kitMeta "ValueError" = true then PySem.W.subIn K (.ref D) (.type "ValueError") else none) = some b
  rw [if_pos e1]
  exact h
def rIsX (K : PySem.W.Frag) : List V → Hp → VK → Prop := fun xs H Q => ∃ (a D : Addr) (c : V) (cv : Value) (b : Bool), xs = [.ref a, c] ∧ H a = some (ExO (.ref D) a) ∧ ExcC K D ∧ ClsV c cv ∧ PySem.W.kitOne K (.ref D) cv = some b ∧ Q (.bl b) H
theorem call_isX : CallR X (.builtin "isinstance") (rIsX X.K) := by
  intro pins s σ H xs us Q I r h
  obtain ⟨a, D, c, cv, b, rfl, ha, hD, hc, hk, q⟩ := h
  match us, r with
  | [u1, u2], .cons r1 (.cons r2 .nil) =>
    obtain rfl : u1 = Value.ref a := r1
    obtain rfl := ClsV.eq hc r2
    obtain ⟨⟨oe, vs, hget, ⟨z1, z2⟩, hv, _⟩, _, _⟩ := I.hok a _ ha
    have J : PySem.W.InstAt s.heap a oe D none := by
      obtain ⟨oc, od, oda, osl⟩ := oe
      dsimp only at z1 z2 hv
      subst z1 z2 hv
      exact ⟨hget, rfl, rfl, trivial⟩
    exact PySem.W.kia_one (PySem.W.handS_kitx_exc hD.hg hD.hk hD.hs hD.hd hD.ha hD.hn hD.ht hD.hm) I.kIn J hk (fun z => nomatch z) fun tk => ⟨.bl b, H, I.kept (t' := tk) fun _ _ z => z, rfl, q⟩
end
theorem dp_bls {K : PySem.W.Frag} {H : Hp} : ∀ cs : List Bool, DpAll K H (cs.map V.bl) (cs.map PyData.bool)
  | [] => .nil
  | c :: cs => .cons (.bl c) (dp_bls cs)
theorem lay_bls : ∀ cs : List Bool, PyData.canLayAll0 (cs.map PyData.bool) = true ∧ PyData.depthAll (cs.map PyData.bool) = 0
  | [] => ⟨by simp only [List.map_nil, PyData.canLayAll0], by simp only [List.map_nil, PyData.depthAll]⟩
  | c :: cs => by
    obtain ⟨h1, h2⟩ := lay_bls cs
    exact ⟨by simp only [List.map_cons, PyData.canLayAll0, PyData.canLay0, h1, Bool.and_self], by simp only [List.map_cons, PyData.depthAll, PyData.depth, h2, Nat.max_self]⟩
theorem shaped_bls (cs : List Bool) : SeqAt.shaped (.list (cs.map PyData.bool)) = true := by
  obtain ⟨h1, h2⟩ := lay_bls cs
  simp only [SeqAt.shaped, PyData.canLay0, PyData.depth, h1, h2, Bool.true_and]
  decide
theorem eqv_bls (l : List Bool) : PyData.eqv (.list (l.map PyData.bool)) (.list (l.map PyData.bool)) = true := SeqAt.eqv_refl _ (SeqAt.canLay_of_shaped (shaped_bls l))
/-- a test that is never asked -/
def tNevT : TT := fun _ _ _ => False
theorem pt_never {X : Cx} {e : Expr} : PT X e tNevT := ⟨fun _ _ _ _ _ _ h => h.elim⟩
end AW
namespace KK
open PySem PySem.Spec PyProof.Rows L2 AW
def topS (i : Nat) : Stmt := PySem.Challenge.pw_anywide_k76_rows_read.main.body.getD i (.Pass ⟨0, 0, 0, 0⟩)
abbrev s_is_whole : Stmt := topS 13
abbrev N_is_whole : List Str := ["thing"]
theorem sc_is_whole : FnScope N_is_whole ["thing"] (defScope s_is_whole) := ⟨rfl, rfl, rfl, by decide +kernel, rfl, by decide +kernel, by decide +kernel⟩
abbrev s_is_number_below : Stmt := topS 14
abbrev N_is_number_below : List Str := ["thing", "many"]
theorem sc_is_number_below : FnScope N_is_number_below ["thing", "many"] (defScope s_is_number_below) := ⟨rfl, rfl, rfl, by decide +kernel, rfl, by decide +kernel, by decide +kernel⟩
abbrev s_is_deed : Stmt := topS 15
abbrev N_is_deed : List Str := ["thing", "ahead", "word", "numbers", "number"]
theorem sc_is_deed : FnScope N_is_deed ["thing", "ahead"] (defScope s_is_deed) := ⟨rfl, rfl, rfl, by decide +kernel, rfl, by decide +kernel, by decide +kernel⟩
abbrev s_are_deeds : Stmt := topS 16
abbrev N_are_deeds : List Str := ["thing", "many", "at", "deed"]
theorem sc_are_deeds : FnScope N_are_deeds ["thing", "many"] (defScope s_are_deeds) := ⟨rfl, rfl, rfl, by decide +kernel, rfl, by decide +kernel, by decide +kernel⟩
abbrev s_is_row : Stmt := topS 17
abbrev N_is_row : List Str := ["thing", "many", "deeds", "out"]
theorem sc_is_row : FnScope N_is_row ["thing"] (defScope s_is_row) := ⟨rfl, rfl, rfl, by decide +kernel, rfl, by decide +kernel, by decide +kernel⟩
abbrev s_read_number : Stmt := topS 21
abbrev N_read_number : List Str := ["word", "sign"]
theorem sc_read_number : FnScope N_read_number ["word"] (defScope s_read_number) := ⟨rfl, rfl, rfl, by decide +kernel, rfl, by decide +kernel, by decide +kernel⟩
abbrev s_read_part : Stmt := topS 22
abbrev N_read_part : List Str := ["text", "words", "word"]
theorem sc_read_part : FnScope N_read_part ["text"] (defScope s_read_part) := ⟨rfl, rfl, rfl, by decide +kernel, rfl, by decide +kernel, by decide +kernel⟩
abbrev s_read_row : Stmt := topS 23
abbrev N_read_row : List Str := ["text", "parts", "first", "last", "row", "part"]
theorem sc_read_row : FnScope N_read_row ["text"] (defScope s_read_row) := ⟨rfl, rfl, rfl, by decide +kernel, rfl, by decide +kernel, by decide +kernel⟩
abbrev s_law_well : Stmt := topS 25
abbrev N_law_well : List Str := ["script", "seed", "cell"]
theorem sc_law_well : FnScope N_law_well ["script"] (defScope s_law_well) := ⟨rfl, rfl, rfl, by decide +kernel, rfl, by decide +kernel, by decide +kernel⟩
abbrev s_law_draw : Stmt := topS 26
abbrev N_law_draw : List Str := ["well", "many", "cell", "found"]
theorem sc_law_draw : FnScope N_law_draw ["well", "many"] (defScope s_law_draw) := ⟨rfl, rfl, rfl, by decide +kernel, rfl, by decide +kernel, by decide +kernel⟩
abbrev s_law_first_words : Stmt := topS 27
abbrev N_law_first_words : List Str := ["found", "word"]
theorem sc_law_first_words : FnScope N_law_first_words [] (defScope s_law_first_words) := ⟨rfl, rfl, rfl, by decide +kernel, rfl, by decide +kernel, by decide +kernel⟩
abbrev s_law_deed : Stmt := topS 28
abbrev N_law_deed : List Str := ["well", "ahead", "words", "word", "k"]
theorem sc_law_deed : FnScope N_law_deed ["well", "ahead"] (defScope s_law_deed) := ⟨rfl, rfl, rfl, by decide +kernel, rfl, by decide +kernel, by decide +kernel⟩
abbrev s_law_row : Stmt := topS 29
abbrev N_law_row : List Str := ["well", "many", "most", "size", "last", "deeds", "k", "out"]
theorem sc_law_row : FnScope N_law_row ["well", "many", "most"] (defScope s_law_row) := ⟨rfl, rfl, rfl, by decide +kernel, rfl, by decide +kernel, by decide +kernel⟩
abbrev s_law_text : Stmt := topS 30
abbrev N_law_text : List Str := ["row", "parts", "deed", "number"]
theorem sc_law_text : FnScope N_law_text ["row"] (defScope s_law_text) := ⟨rfl, rfl, rfl, by decide +kernel, rfl, by decide +kernel, by decide +kernel⟩
abbrev s_law_number : Stmt := topS 31
abbrev N_law_number : List Str := ["word", "k"]
theorem sc_law_number : FnScope N_law_number ["word"] (defScope s_law_number) := ⟨rfl, rfl, rfl, by decide +kernel, rfl, by decide +kernel, by decide +kernel⟩
abbrev s_law_read : Stmt := topS 32
abbrev N_law_read : List Str := ["text", "part", "parts", "many", "out", "words", "deeds", "k", "numbers", "word", "one"]
theorem sc_law_read : FnScope N_law_read ["text"] (defScope s_law_read) := ⟨rfl, rfl, rfl, by decide +kernel, rfl, by decide +kernel, by decide +kernel⟩
abbrev s_law_signs : Stmt := topS 33
abbrev N_law_signs : List Str := ["found"]
theorem sc_law_signs : FnScope N_law_signs [] (defScope s_law_signs) := ⟨rfl, rfl, rfl, by decide +kernel, rfl, by decide +kernel, by decide +kernel⟩
abbrev s_law_bent_text : Stmt := topS 34
abbrev N_law_bent_text : List Str := ["well", "text", "way", "signs", "at", "sign", "gone", "parts", "to", "between", "words", "spot", "odd"]
theorem sc_law_bent_text : FnScope N_law_bent_text ["well", "text"] (defScope s_law_bent_text) := ⟨rfl, rfl, rfl, by decide +kernel, rfl, by decide +kernel, by decide +kernel⟩
abbrev s_law_refused : Stmt := topS 35
abbrev N_law_refused : List Str := ["thing", "caught", "seen", "e"]
theorem sc_law_refused : FnScope N_law_refused ["thing"] (defScope s_law_refused) := ⟨rfl, rfl, rfl, by decide +kernel, rfl, by decide +kernel, by decide +kernel⟩
abbrev s_law : Stmt := topS 36
abbrev N_law : List Str := ["script", "well", "turn", "times", "none", "text", "again", "thing", "due"]
theorem sc_law : FnScope N_law ["script"] (defScope s_law) := ⟨rfl, rfl, rfl, by decide +kernel, rfl, by decide +kernel, by decide +kernel⟩
abbrev c_WideError : Stmt := topS 1
abbrev c_NoRow : Stmt := topS 2
abbrev c_NoPair : Stmt := topS 3
abbrev c_NoRule : Stmt := topS 4
abbrev c_NoName : Stmt := topS 5
abbrev c_NoText : Stmt := topS 6
abbrev c_TooMany : Stmt := topS 7
abbrev c_Nothing : Stmt := topS 8
section
variable {P : Program} {w : World} {K : PySem.W.Frag} {mg : Str → Option Value} {base : Heap}
def spWell (K : PySem.W.Frag) : Sp := fun vs H Q _ => ∃ (a : Addr) (ns : List Int), vs = [.ref a] ∧ SqL K H a (ns.map V.int) ∧ ns.length ≤ 63 ∧ (∀ z ∈ ns, Builtin.Int.intBits z ≤ 1048576) ∧
  ∀ H' p c, Same H H' → H p = none → H c = none → WL H' p c → Q (.ref p) H'
theorem ok_well {f : Addr} {fd : FuncData} {k : Nat} (F : Fun K "_law_well" "_law_well" s_law_well f fd) (ma : mg "abs" = none) : FnOk P w K mg base CX0 (k + 1) f fd ["script"] (spWell K) := by
  refine F.ok sc_law_well (fun vs H Q E h => ?_) (fun cdv A outer s H vs Q E hr h => ?_)
  · obtain ⟨a, ns, rfl, _⟩ := h
    rfl
  · obtain ⟨a, ns, rfl, hS, hlen, hbits, q⟩ := h
    refine ⟨_, pss_cons (ps_set (i := 1) sc_law_well.nd rfl (.inl rfl) pe_int)
      (pss_cons (ps_for PassesOwn.never rfl (pi_list (pv 0)) (pg_name (i := 2) sc_law_well.nd rfl (.inl rfl))
        (pss_one (ps_set (i := 1) sc_law_well.nd rfl (.inl rfl) (pe_op op_add (pe_op op_mod (pe_op op_powW (pe_op op_add (pe_op op_mul (pv 1) pe_int) (pv 2)) pe_int) pe_int) pe_int))))
      (pss_one (ps_ret (pe_lst (pa_cons (pe_lc (own := [("cell", 2)]) (g := gName 2) (by rfl) sc_law_well.nd (pi_list (pv 0)) (blkOk_by (own := [("cell", 2)]) (N := ["script", "seed", "cell"]) (sc := defScope s_law_well) (by decide +kernel))
          (fun _ _ _ _ _ => pg_name (i := 2) sc_law_well.nd rfl (Or.inl rfl)) (fun _ _ _ _ _ => pts_nil)
          (fun _ _ _ _ _ => pe_callB call_abs (by rfl) ma (by decide +kernel) (pa_cons (pv 2) pa_nil))) (pa_cons pe_int (pa_cons (pv 1) pa_nil))))))), ?_⟩
    refine ⟨.ref a, rfl, a, rfl, ⟨_, hS⟩, for_list (K := K) (a := a) (xs := ns.map V.int) (fun i σ H3 => ∃ z y, σ = [some (.ref a), some (.int z), y] ∧ 0 ≤ z ∧ z ≤ 2147483629 ∧ H3 = H) ⟨1, none, rfl, by decide, by decide, rfl⟩ (fun i σ H3 _ hp => ?_) (fun i x σ H3 hx hp => ?_) (fun σ H3 hp => ?_)⟩
    · obtain ⟨z, y, _, _, _, rfl⟩ := hp
      exact hS
    · obtain ⟨z, y, rfl, h0, h1, rfl⟩ := hp
      obtain ⟨c, hc, rfl⟩ : ∃ c, c ∈ ns ∧ x = .int c := by
        rw [List.getElem?_map] at hx
        cases e : ns[i]? with
        | none => rw [e] at hx; cases hx
        | some c => rw [e] at hx; exact ⟨c, List.mem_of_getElem? e, (Option.some.inj hx).symm⟩
      refine ⟨.int z, rfl, z, 50021, rfl, rfl, .inr ⟨by decide, by decide⟩, .int c, rfl, _, _, rfl, rfl, _, 3, rfl, rfl, seed_ok h0 h1 (hbits c hc), _, 2147483629, rfl, rfl, (by show (0 : Int) < 2147483629; decide), _, 1, rfl, rfl, ?_⟩
      refine ⟨_, some (.int c), rfl, ?_, ?_, rfl⟩
      · have := Int.emod_nonneg ((z * 50021 + c) ^ (3 : Int).toNat) (show (2147483629 : Int) ≠ 0 by decide)
        omega
      · have := Int.emod_lt_of_pos ((z * 50021 + c) ^ (3 : Int).toNat) (show (0 : Int) < 2147483629 by decide)
        omega
    · obtain ⟨z, y, rfl, h0, h1, rfl⟩ := hp
      refine ⟨.ref a, rfl, a, rfl, ⟨_, hS⟩, fun D hD => ?_⟩
      have sD : ∀ o, Same H3 (upd H3 D o) := fun o => same_new hD
      refine lc_list (K := K) (a := a) (xs := ns.map V.int) (fun i H4 => ∃ cs : List Int, cs.length = i ∧ H4 = upd H3 D (.lst (cs.map V.int))) ⟨[], rfl, rfl⟩ (fun i H4 _ hp => ?_) (fun i x H4 hx hp => ?_) (fun H4 hp => ?_)
      · obtain ⟨cs, _, rfl⟩ := hp
        exact (sD _).seq hS
      · obtain ⟨cs, hl, rfl⟩ := hp
        obtain ⟨c, hc, rfl⟩ : ∃ c, c ∈ ns ∧ x = .int c := by
          rw [List.getElem?_map] at hx
          cases e : ns[i]? with
          | none => rw [e] at hx; cases hx
          | some c => rw [e] at hx; exact ⟨c, List.mem_of_getElem? e, (Option.some.inj hx).symm⟩
        have hi : i < ns.length := by
          have := (List.getElem?_eq_some_iff.mp hx).1
          rwa [List.length_map] at this
        refine ⟨rfl, .int c, rfl, c, rfl, _, upd_same, ?_, cs ++ [if c < 0 then -c else c], ?_, ?_⟩
        · rw [List.length_map, hl]
          exact small1000 (by omega)
        · rw [List.length_append, hl]
          rfl
        · rw [upd_upd, List.map_append]
          rfl
      · obtain ⟨cs, hl, rfl⟩ := hp
        refine ⟨.int z, rfl, by show 3 ≤ sizeLine; decide, fun p hp => ?_⟩
        have np : p ≠ D := fun e => by
          rw [e, upd_same] at hp
          cases hp
        have hp2 : H3 p = none := by
          rw [upd_ne np] at hp
          exact hp
        refine q _ p D ((sD _).trans (same_new hp)) hp2 hD ⟨np, cs, 0, z, upd_same, ?_⟩
        rw [upd_ne np.symm, upd_same]
def spDraw : Sp := fun vs H Q _ => ∃ (a c : Addr) (m : Int), vs = [.ref a, .int m] ∧ 0 < m ∧ m ≤ 2 ^ 80 ∧ WL H a c ∧ ∀ H' z, 0 ≤ z → z < m → WL H' a c → Kp a c H H' → Q (.int z) H'
theorem ok_draw {f : Addr} {fd : FuncData} {k : Nat} (F : Fun K "_law_draw" "_law_draw" s_law_draw f fd) : FnOk P w K mg base CX0 (k + 1) f fd ["well", "many"] spDraw := by
  refine F.ok sc_law_draw (fun vs H Q E h => ?_) (fun cdv A outer s H vs Q E hr h => ?_)
  · obtain ⟨a, c, m, rfl, _⟩ := h
    rfl
  · obtain ⟨a, c, m, rfl, hm, hm2, hw, q⟩ := h
    refine ⟨_, pss_mid (ps_if (PW.pt (pw_and (pt_cmpR op_eq (pe_ix ix_list (pv 0) pe_int (fun _ _ => rfl)) pe_int (nomark _))
          (pw_and1 (pt_cmpR (op_neD hr.units) (pe_ix ix_list (pv 0) pe_int (fun _ _ => rfl)) (pe_lst pa_nil) (nomark _)))))
        (pss_cons (ps_set (i := 2) sc_law_draw.nd rfl (.inl rfl) (pe_bm PySem.F.plainAttrs_list PySem.F.slot_list_pop PySem.F.type_list_pop mt_popAt (pe_ix ix_list (pv 0) pe_int (fun _ _ => rfl)) (pa_cons pe_int pa_nil)))
        (pss_cons (ps_if (pt_cmpR op_lt (pv 2) (pe_op op_pow pe_int pe_int) (nomark _)) (pss_one (ps_ret (pe_op op_mod (pv 2) (pv 1)))) pss_nil)
        (pss_one (ps_asg (pv 2) (pg_sub (pv 0) pe_int set_list))))) pss_nil)
      (pss_cons (ps_if (pt_cmpR op_gt (pe_ix ix_list (pv 0) pe_int (fun _ _ => rfl)) pe_int (nomark _))
        (pss_cons (ps_set (i := 3) sc_law_draw.nd rfl (.inl rfl) (pe_op op_mod (pe_ix ix_list (pv 0) pe_int (fun _ _ => rfl)) (pv 1)))
        (pss_cons (ps_asg (pe_op op_fdivW (pe_ix ix_list (pv 0) pe_int (fun _ _ => rfl)) (pv 1)) (pg_sub (pv 0) pe_int set_list))
        (pss_one (ps_ret (pv 3))))) pss_nil)
      (pss_cons (ps_asg (pe_op op_mod (pe_op op_add (pe_op op_mul (pe_ix ix_list (pv 0) pe_int (fun _ _ => rfl)) pe_int) pe_int) pe_int) (pg_sub (pv 0) pe_int set_list))
      (pss_one (ps_ret (pe_op op_mod (pe_op op_fdiv (pe_op op_mod (pe_op op_pow (pe_op op_mod (pe_op op_pow (pe_ix ix_list (pv 0) pe_int (fun _ _ => rfl)) pe_int) pe_int) pe_int) pe_int) pe_int) (pv 1)))))), ?_⟩
    refine ⟨fun σ2 H2 => ∃ y, σ2 = [some (.ref a), some (.int m), y, none] ∧ WL H2 a c ∧ Kp a c H H2, ?_, ?_⟩
    · obtain ⟨nac, cs, r, sd, ea, ec⟩ := id hw
      have lA : SqL K H a [.ref c, .int r, .int sd] := .inl (.inl ea)
      refine ⟨.ref a, rfl, a, _, 1, .int r, rfl, rfl, lA, rfl, rfl, _, rfl, ite2 (fun e => ?_) (fun e => ?_)⟩
      · refine ⟨.ref a, rfl, a, _, 0, .ref c, rfl, rfl, lA, rfl, Nat.zero_le _, fun p hp => ?_⟩
        have sp : Same H (upd H p (.lst [])) := same_new hp
        refine ⟨.list (cs.map PyData.int), .list [], .lst (sp.seq (.inl (.inl ec))) (dp_ints cs), .lst (.inl (.inl upd_same)) .nil, shaped_ints cs, by decide +kernel, _, rfl, ?_⟩
        have ec2 : upd H p (.lst []) c = some (.lst (cs.map V.int)) := sp _ _ ec
        have ea2 : upd H p (.lst []) a = some (.lst [.ref c, .int r, .int sd]) := sp _ _ ea
        have lA2 : SqL K (upd H p (.lst [])) a [.ref c, .int r, .int sd] := .inl (.inl ea2)
        cases cs with
        | nil =>
          rw [show PyData.eqv (.list (([] : List Int).map PyData.int)) (.list []) = true by decide +kernel]
          exact ⟨_, rfl, hw.same sp, Same.kp sp⟩
        | cons x cs =>
          rw [show PyData.eqv (.list ((x :: cs).map PyData.int)) (.list []) = false by simp only [List.map_cons, PyData.eqv, PyData.eqvAll]]
          refine ⟨.ref a, rfl, a, _, 0, .ref c, rfl, rfl, lA2, rfl, .inl ⟨rfl, _, .inl (.inl ec2)⟩, c, _, 0, 0, .int x, rfl, rfl, ec2, by decide, by decide, ?_, rfl, ?_⟩
          · rw [List.length_map, List.length_cons]
            exact seq0 _
          have w3 : WL (upd (upd H p (.lst [])) c (.lst (List.eraseIdx ((x :: cs).map V.int) 0))) a c := ⟨nac, cs, r, sd, by rw [upd_ne nac]; exact ea2, upd_same⟩
          have k3 : Kp a c H (upd (upd H p (.lst [])) c (.lst (List.eraseIdx ((x :: cs).map V.int) 0))) := fun b o n1 n2 eb => by
            rw [upd_ne n2]
            exact sp _ _ eb
          refine ⟨.int x, rfl, 10, 18, rfl, rfl, ⟨by decide, by decide, by decide⟩, x, _, rfl, rfl, _, rfl, ite2 (fun e => ?_) (fun e => ?_)⟩
          · exact ⟨.int x, rfl, .int m, rfl, x, m, rfl, rfl, hm, q _ _ (Int.emod_nonneg _ (by omega)) (Int.emod_lt_of_pos _ hm) w3 k3⟩
          · refine ⟨.int x, rfl, .ref a, rfl, a, _, 1, 1, rfl, rfl, by rw [upd_ne nac]; exact ea2, rfl, some (.int x), rfl, ?_, ?_⟩
            · exact ⟨nac, cs, x, sd, upd_same, by rw [upd_ne nac.symm]; exact upd_same⟩
            · intro b o n1 n2 eb
              rw [upd_ne n1]
              exact k3 b o n1 n2 eb
      · exact ⟨_, rfl, hw, Kp.refl a c H⟩
    · rintro σ2 H2 ⟨y, rfl, hw2, kp⟩
      obtain ⟨nac, cs, r, sd, ea, ec⟩ := id hw2
      have lA : SqL K H2 a [.ref c, .int r, .int sd] := .inl (.inl ea)
      refine ⟨.ref a, rfl, a, _, 1, .int r, rfl, rfl, lA, rfl, r, 0, rfl, rfl, _, rfl, ite2 (fun e => ?_) (fun e => ?_)⟩
      · refine ⟨.ref a, rfl, a, _, 1, .int r, rfl, rfl, lA, rfl, .int m, rfl, r, m, rfl, rfl, hm, ?_⟩
        refine ⟨.ref a, rfl, a, _, 1, .int r, rfl, rfl, lA, rfl, .int m, rfl, r, m, rfl, rfl, wide_div (b := 81) hm (by omega) (by decide) (by decide), ?_⟩
        refine ⟨.ref a, rfl, a, _, 1, 1, rfl, rfl, ea, rfl, .int (r % m), rfl, ?_⟩
        refine q _ _ (Int.emod_nonneg _ (by omega)) (Int.emod_lt_of_pos _ hm) ⟨nac, cs, r / m, sd, upd_same, ?_⟩ ?_
        · rw [upd_ne nac.symm]
          exact ec
        · intro b o n1 n2 eb
          rw [upd_ne n1]
          exact kp b o n1 n2 eb
      · refine ⟨.ref a, rfl, a, _, 2, .int sd, rfl, rfl, lA, rfl, sd, 48271, rfl, rfl, .inr ⟨by decide, by decide⟩, _, 12345, rfl, rfl, _, 2147483647, rfl, rfl, (by show (0 : Int) < 2147483647; decide), ?_⟩
        have l0 := Int.emod_nonneg (sd * 48271 + 12345) (show (2147483647 : Int) ≠ 0 by decide)
        have l1 := Int.emod_lt_of_pos (sd * 48271 + 12345) (show (0 : Int) < 2147483647 by decide)
        obtain ⟨z, hz⟩ : ∃ z : Int, (sd * 48271 + 12345) % 2147483647 = z := ⟨_, rfl⟩
        rw [hz] at l0 l1
        refine ⟨.ref a, rfl, a, _, 2, 2, rfl, rfl, ea, rfl, ?_⟩
        have l2 := Int.emod_nonneg (z ^ (3 : Int).toNat) (show (2147483629 : Int) ≠ 0 by decide)
        have l3 := Int.emod_lt_of_pos (z ^ (3 : Int).toNat) (show (0 : Int) < 2147483629 by decide)
        refine ⟨.ref a, rfl, a, _, 2, .int z, rfl, rfl, .inl (.inl upd_same), (by rw [← hz]; rfl), z, 3, rfl, rfl, ⟨by decide, by decide, by omega⟩, _, 2147483629, rfl, rfl, (by show (0 : Int) < 2147483629; decide), ?_⟩
        obtain ⟨x, hx⟩ : ∃ x : Int, z ^ (3 : Int).toNat % 2147483629 = x := ⟨_, rfl⟩
        rw [hx] at l2 l3
        refine ⟨x, 5, congrArg V.int hx, rfl, ⟨by decide, by decide, by omega⟩, _, 1000000007, rfl, rfl, (by show (0 : Int) < 1000000007; decide), _, 7, rfl, rfl, ⟨by decide, by decide⟩, .int m, rfl, _, m, rfl, rfl, hm, ?_⟩
        refine q _ _ (Int.emod_nonneg _ (by omega)) (Int.emod_lt_of_pos _ hm) ⟨nac, cs, r, z, (by rw [← hz]; exact upd_same), ?_⟩ ?_
        · rw [upd_ne nac.symm]
          exact ec
        · intro b o n1 n2 eb
          rw [upd_ne n1]
          exact kp b o n1 n2 eb
/-! ### first_words -/
def spFw : Sp := fun vs H Q _ => vs = [] ∧ ∀ H' p, Same H H' → H p = none → H' p = some (.dK fwK) → Q (.ref p) H'
theorem ok_fw {f : Addr} {fd : FuncData} {k : Nat} (F : Fun K "_law_first_words" "_law_first_words" s_law_first_words f fd) : FnOk P w K mg base CX0 (k + 1) f fd [] spFw := by
  refine F.ok sc_law_first_words (fun vs H Q E h => ?_) (fun cdv A outer s H vs Q E hr h => ?_)
  · rw [h.1]
    rfl
  · obtain ⟨rfl, q⟩ := h
    refine ⟨_, pss_cons (ps_set (i := 0) sc_law_first_words.nd rfl (.inl rfl) (pe_disp (pps_cons pe_str pe_int (pps_cons pe_str pe_int (pps_cons pe_str pe_int (pps_cons pe_str pe_int (pps_cons pe_str pe_int (pps_cons pe_str pe_int pps_nil)))))) (by rfl) (by rfl) (fun z => by cases z) (by decide)))
      (pss_cons (ps_for PassesOwn.never rfl (pi_list (pe_lst (pa_cons pe_str (pa_cons pe_str (pa_cons pe_str (pa_cons pe_str (pa_cons pe_str pa_nil))))))) (pg_name (i := 1) sc_law_first_words.nd rfl (.inl rfl))
        (pss_one (ps_dput (hu_of hr) (pv 0) (pv 1) pe_int rfl)))
      (pss_one (ps_ret (pv 0)))), ?_⟩
    intro p hp
    refine ⟨upd_same, (fwK.take 6), rfl, by decide, ?_⟩
    refine ⟨by show 5 ≤ sizeLine; decide, fun l hl => ?_⟩
    rw [upd_upd] at hl ⊢
    have nlp : l ≠ p := fun e => by
      rw [e, upd_same] at hl
      cases hl
    have hl0 : H l = none := by
      rw [upd_ne nlp] at hl
      exact hl
    refine ⟨l, rfl, ⟨_, .inl (.inl upd_same)⟩, for_list (K := K) (a := l) (xs := [.str "and", .str "or", .str "xor", .str "add", .str "sub"]) (fun i σ H3 => ∃ y, σ = [some (.ref p), y] ∧ H3 p = some (.dK (fwK.take (6 + i))) ∧ H3 l = some (.lst [.str "and", .str "or", .str "xor", .str "add", .str "sub"]) ∧ Same H H3) ⟨none, rfl, ?_, upd_same, (same_new hp).trans (same_new hl)⟩ (fun i σ H3 _ hp => ?_) (fun i x σ H3 hx hq => ?_) (fun σ H3 hq => ?_)⟩
    · rw [upd_ne nlp.symm, upd_same]
      rfl
    · obtain ⟨y, _, _, e, _⟩ := hp
      exact .inl (.inl e)
    · obtain ⟨y, rfl, ep, el, sm⟩ := hq
      have hi : i < 5 := (List.getElem?_eq_some_iff.mp hx).1
      have hp3 : ∀ o, Same H (upd H3 p o) := fun o b u e => by
        rw [upd_ne (ne_of_none e hp)]
        exact sm b u e
      have hlen : (fwK.take (6 + i)).length < sizeLine := by
        rw [List.length_take]
        exact small1000 (by omega)
      obtain ⟨x0, rfl, ex⟩ : ∃ x0 : Str, x = .str x0 ∧ putK (fwK.take (6 + i)) (Sum.inr x0) (.int 2) = fwK.take (6 + (i + 1)) := by
        have : i = 0 ∨ i = 1 ∨ i = 2 ∨ i = 3 ∨ i = 4 := by omega
        rcases this with rfl | rfl | rfl | rfl | rfl <;> exact ⟨_, (Option.some.inj hx).symm, by decide +kernel⟩
      refine ⟨.ref p, rfl, .str x0, rfl, p, _, rfl, DPut.k (k := Sum.inr x0) ep hlen, some (.str x0), rfl, ?_, ?_, hp3 _⟩
      · rw [upd_same, ex]
      · rw [upd_ne nlp]
        exact el
    · obtain ⟨y, rfl, ep, el, sm⟩ := hq
      exact ⟨.ref p, rfl, q H3 p sm hp ep⟩
/-! ### deed -/
def spDeed : Sp := fun vs H Q _ => ∃ (a c : Addr) (m : Int), vs = [.ref a, .int m] ∧ 0 < m ∧ m ≤ 100 ∧ WL H a c ∧ ∀ H' r d, DeedOk m d → H' r = some (.tup (dV d)) → WL H' a c → Kp a c H H' → Q (.ref r) H'
theorem ok_deed {f fD fW : Addr} {fd fdD fdW : FuncData} {k : Nat} (F : Fun K "_law_deed" "_law_deed" s_law_deed f fd) (FD : Fun K "_law_draw" "_law_draw" s_law_draw fD fdD) (FW : Fun K "_law_first_words" "_law_first_words" s_law_first_words fW fdW)
    (bD : Binds K fdD ["well", "many"] []) (bW : Binds K fdW [] []) (gD : mg "_law_draw" = some (.ref fD)) (gW : mg "_law_first_words" = some (.ref fW)) (ml : mg "list" = none) (mt : mg "tuple" = none) (mr : mg "range" = none) :
    FnOk P w K mg base CX0 (k + 2) f fd ["well", "ahead"] spDeed := by
  have GD : FnOk P w K mg base CX0 (k + 1) fD fdD ["well", "many"] spDraw := ok_draw FD
  have GW : FnOk P w K mg base CX0 (k + 1) fW fdW [] spFw := ok_fw FW
  refine F.ok sc_law_deed (fun vs H Q E h => ?_) (fun cdv A outer s H vs Q E hr h => ?_)
  · obtain ⟨a, c, m, rfl, _⟩ := h
    rfl
  · obtain ⟨a, c, m, rfl, hm, hm2, hw, q⟩ := h
    refine ⟨_, pss_cons (ps_set (i := 2) sc_law_deed.nd rfl (.inl rfl) (pe_call0 GW hr (by rfl) gW FW.kp bW .nil pass0))
      (pss_cons (ps_set (i := 3) sc_law_deed.nd rfl (.inl rfl) (pe_ix ix_list (pe_callTy (call_list_dK rfl) (by rfl) ml (by decide +kernel) (pa_cons (pv 2) pa_nil)) (pe_call GD hr (by rfl) gD FD.kp bD .nil pass0 (pa_cons (pv 0) (pa_cons pe_int pa_nil))) (fun _ _ => rfl)))
      (pss_one (ps_ret (pe_op op_catT (pe_tup (pa_cons (pv 3) pa_nil)) (pe_callTy call_tuple_of (by rfl) mt (by decide +kernel) (pa_cons
        (pe_lc (own := [("k", 4)]) (g := gName 4) (by rfl) sc_law_deed.nd (pi_range1 (by rfl) mr (pa_cons (pe_dget (hu_of hr) (pv 2) (pv 3) (fun _ _ => rfl)) pa_nil)) (blkOk_by (own := [("k", 4)]) (N := N_law_deed) (sc := defScope s_law_deed) (by decide +kernel))
          (fun _ _ _ _ _ => pg_name (i := 4) sc_law_deed.nd rfl (Or.inl rfl)) (fun _ _ _ _ _ => pts_nil)
          (fun _ _ _ _ _ => pe_call GD hr (by rfl) gD FD.kp bD .nil pass0 (pa_cons (pv 0) (pa_cons (pv 1) pa_nil)))) pa_nil)))))), ?_⟩
    refine ⟨rfl, fun H1 p s1 hp e1 => ?_⟩
    refine ⟨.ref p, rfl, p, _, rfl, e1, fun L hL => ?_⟩
    have w1 : WL H1 a c := hw.same s1
    obtain ⟨nLa, nLc⟩ := w1.ne_new hL
    have nLp : L ≠ p := fun e => by
      rw [e, e1] at hL
      cases hL
    obtain ⟨npa, npc⟩ := hw.ne_new hp
    refine ⟨.ref a, rfl, a, c, 11, rfl, by decide, by decide, w1.upd nLa nLc, fun H2 z z0 z1 w2 k2 => ?_⟩
    obtain ⟨x, n, hmem, n0, n2, hat, hval⟩ := fw_at z0 z1
    have eL2 : H2 L = some (.lst (fwK.map fun kv => kV kv.1)) := k2 _ _ nLa nLc upd_same
    have ep2 : H2 p = some (.dK fwK) := k2 _ _ npa npc (by rw [upd_ne nLp.symm]; exact e1)
    refine ⟨L, _, z, .str x, rfl, rfl, .inl (.inl eL2), hat, ?_⟩
    refine ⟨.str x, rfl, by show 1 ≤ sizeLine; decide, fun U hU => ?_⟩
    obtain ⟨nUa, nUc⟩ := w2.ne_new hU
    have w3 : WL (upd H2 U (.tup [.str x])) a c := w2.upd nUa nUc
    have nUp : p ≠ U := ne_of_none ep2 hU
    refine ⟨.ref p, rfl, .str x, rfl, p, .int n, rfl, ?_, ?_⟩
    · rw [← hval]
      exact DGet.k (k := Sum.inr x) (by rw [upd_ne nUp]; exact ep2)
    have kH : Kp a c H (upd H2 U (.tup [.str x])) := fun b o n1 n2 e => by
      have e3 := k2 b o n1 n2 (by rw [upd_ne (ne_of_none (s1 b o e) hL)]; exact s1 b o e)
      rw [upd_ne (ne_of_none e3 hU)]
      exact e3
    refine ⟨n, rfl, by omega, by omega, fun D hD => ?_⟩
    obtain ⟨nDa, nDc⟩ := w3.ne_new hD
    have eU3 : upd H2 U (.tup [.str x]) U = some (.tup [.str x]) := upd_same
    have nDU : U ≠ D := ne_of_none eU3 hD
    refine lc_range (lo := 0) (n := n.toNat) (fun i H4 => ∃ zs : List Int, zs.length = i ∧ (∀ y ∈ zs, 0 ≤ y ∧ y < m) ∧ H4 D = some (.lst (zs.map V.int)) ∧ H4 U = some (.tup [.str x]) ∧ WL H4 a c ∧ Kp a c H H4) ⟨[], rfl, (fun _ z => nomatch z), upd_same, ?_, w3.upd nDa nDc, kH.trans (Same.kp (same_new hD))⟩ (fun i H4 hi hp => ?_) (fun H4 hp => ?_)
    · rw [upd_ne nDU]
      exact eU3
    · obtain ⟨zs, hz, hb, eD, eU, w4, k4⟩ := hp
      refine ⟨rfl, .ref a, rfl, .int m, rfl, a, c, m, rfl, hm, by omega, w4, fun H5 y y0 y1 w5 k5 => ?_⟩
      have eD5 := k5 _ _ nDa nDc eD
      refine ⟨_, eD5, ?_, zs ++ [y], ?_, ?_, ?_, ?_, w5.upd nDa nDc, ?_⟩
      · rw [List.length_map]
        exact small1000 (by omega)
      · rw [List.length_append, hz]
        rfl
      · intro y' hy'
        rcases List.mem_append.mp hy' with h | h
        · exact hb y' h
        · rw [List.mem_singleton.mp h]
          exact ⟨y0, y1⟩
      · rw [upd_same, List.map_append]
        rfl
      · rw [upd_ne nDU]
        exact k5.tup w4 eU
      · intro b o n1 n2 e
        have nbD : b ≠ D := by
          intro z
          have z1 := kH b o n1 n2 e
          rw [z, hD] at z1
          cases z1
        rw [upd_ne nbD]
        exact k5 b o n1 n2 (k4 b o n1 n2 e)
    · obtain ⟨zs, hz, hb, eD, eU, w4, k4⟩ := hp
      refine ⟨D, _, rfl, .inl ⟨.inl (.inl eD), fun T hT => ?_⟩⟩
      obtain ⟨nTa, nTc⟩ := w4.ne_new hT
      have sT : Same H4 (upd H4 T (.tup (zs.map V.int))) := same_new hT
      have eU6 : upd H4 T (.tup (zs.map V.int)) U = some (.tup [.str x]) := sT _ _ eU
      have hl : (zs.length : Int) = n := by omega
      have ok : DeedOk m (x, zs) := ⟨by rw [show ((x, zs) : Deed).2.length = zs.length from rfl, hl]; exact hmem, hb⟩
      refine ⟨U, T, _, _, rfl, rfl, SqT.of eU6, SqT.of upd_same, (fun z => nomatch z), ?_, fun e => ?_, fun e p hp => ?_⟩
      · rw [List.length_map]
        exact Nat.le_of_lt (small1000 (by show 1 + zs.length ≤ 1000; omega))
      · have e0 : zs = [] := List.map_eq_nil_iff.mp e
        refine q _ U (x, zs) ok ?_ (w4.upd nTa nTc) (k4.trans (Same.kp sT))
        rw [e0]
        rw [e0] at eU6
        exact eU6
      · have w6 := w4.upd (o := .tup (zs.map V.int)) nTa nTc
        obtain ⟨n1, n2⟩ := w6.ne_new hp
        exact q _ p (x, zs) ok upd_same (w6.upd n1 n2) ((k4.trans (Same.kp sT)).trans (Same.kp (same_new hp)))
/-! ### row -/
def spRow : Sp := fun vs H Q _ => ∃ (a c : Addr) (m n : Int), vs = [.ref a, .int m, .int n] ∧ 1 ≤ m ∧ m ≤ 3 ∧ 0 ≤ n ∧ n ≤ 8 ∧ WL H a c ∧
  ∀ H' R ds o, RowAt H' R m ds o → RowOk m ds o → (ds.length : Int) ≤ n → WL H' a c → Kp a c H H' → Q (.ref R) H'
theorem ok_row {f fD fE : Addr} {fd fdD fdE : FuncData} {k : Nat} (F : Fun K "_law_row" "_law_row" s_law_row f fd) (GD : FnOk P w K mg base CX0 (k + 1) fD fdD ["well", "many"] spDraw) (kD : PySem.W.keepIn K (.ref fD) = true)
    (GE : FnOk P w K mg base CX0 (k + 2) fE fdE ["well", "ahead"] spDeed) (kE : PySem.W.keepIn K (.ref fE) = true)
    (bD : Binds K fdD ["well", "many"] []) (bE : Binds K fdE ["well", "ahead"] []) (gD : mg "_law_draw" = some (.ref fD)) (gE : mg "_law_deed" = some (.ref fE)) (mt : mg "tuple" = none) (mr : mg "range" = none) :
    FnOk P w K mg base CX0 (k + 3) f fd ["well", "many", "most"] spRow := by
  refine F.ok sc_law_row (fun vs H Q E h => ?_) (fun cdv A outer s H vs Q E hr h => ?_)
  · obtain ⟨a, c, m, n, rfl, _⟩ := h
    rfl
  · obtain ⟨a, c, m, n, rfl, hm, hm2, hn, hn2, hw, q⟩ := h
    have hr1 := hr.mono (show k + 1 ≤ k + 2 by omega)
    refine ⟨_, pss_cons (ps_set (i := 3) sc_law_row.nd rfl (.inl rfl) (pe_call GD hr1 (by rfl) gD kD bD .nil pass0 (pa_cons (pv 0) (pa_cons (pe_op op_add (pv 2) pe_int) pa_nil))))
      (pss_cons (ps_set (i := 4) sc_law_row.nd rfl (.inl rfl) (pe_cmpR op_gt (pe_call GD hr1 (by rfl) gD kD bD .nil pass0 (pa_cons (pv 0) (pa_cons pe_int pa_nil))) pe_int (nomark _)))
      (pss_cons (ps_set (i := 5) sc_law_row.nd rfl (.inl rfl) (pe_lst pa_nil))
      (pss_cons (ps_for PassesOwn.never rfl (pi_range1 (by rfl) mr (pa_cons (pv 3) pa_nil)) (pg_name (i := 6) sc_law_row.nd rfl (.inl rfl))
        (pss_one (ps_expr (pe_bm PySem.F.plainAttrs_list PySem.F.slot_list_append PySem.F.type_list_append mt_append (pv 5) (pa_cons (pe_call GE hr (by rfl) gE kE bE .nil pass0 (pa_cons (pv 0) (pa_cons (pe_op op_add (pv 1) (pv 6)) pa_nil))) pa_nil)))))
      (pss_cons (ps_set (i := 7) sc_law_row.nd rfl (.inl rfl) (pe_op op_sub (pe_op op_add (pv 1) (pv 3)) pe_int))
      (pss_mid (ps_if (pt_not (pt_val (pv 4))) (pss_one (ps_set (i := 7) sc_law_row.nd rfl (.inl rfl) (pe_call GD hr1 (by rfl) gD kD bD .nil pass0 (pa_cons (pv 0) (pa_cons (pe_op op_add (pv 1) (pv 3)) pa_nil))))) pss_nil)
      (pss_one (ps_ret (pe_tup (pa_cons (pv 1) (pa_cons (pe_callTy call_tuple_of (by rfl) mt (by decide +kernel) (pa_cons (pv 5) pa_nil)) (pa_cons (pv 7) pa_nil))))))))))), ?_⟩
    refine ⟨.ref a, rfl, .int n, rfl, n, 1, rfl, rfl, a, c, n + 1, rfl, by omega, by omega, hw, fun H1 sz z0 z1 w1 k1 => ?_⟩
    refine ⟨.ref a, rfl, a, c, 4, rfl, by decide, by decide, w1, fun H2 la l0 l1 w2 k2 => ?_⟩
    refine ⟨la, 0, rfl, rfl, Nat.zero_le _, fun D hD => ?_⟩
    obtain ⟨nDa, nDc⟩ := w2.ne_new hD
    have kH : Kp a c H H2 := k1.trans k2
    refine ⟨.int sz, rfl, sz, rfl, by omega, by omega, for_range (lo := 0) (n := sz.toNat) (fun i σ H3 => ∃ y rs ds, σ = [some (.ref a), some (.int m), some (.int n), some (.int sz), some (.bl (decide (la > 0))), some (.ref D), y, none] ∧ H3 D = some (.lst (rs.map V.ref)) ∧ DsAt H3 rs ds ∧ ds.length = i ∧ DsOk m ds ∧ WL H3 a c ∧ Kp a c H H3)
      ⟨none, [], [], rfl, upd_same, .nil, rfl, ⟨fun k d e => by simp at e⟩, w2.upd nDa nDc, kH.trans (Same.kp (same_new hD))⟩ (fun i σ H3 hi hp => ?_) (fun σ H3 hp => ?_)⟩
    · obtain ⟨y, rs, ds, rfl, eD, hd, hl, ok, w3, k3⟩ := hp
      refine ⟨.ref D, rfl, .inl ⟨rfl, _, .inl (.inl eD)⟩, .ref a, rfl, .int m, rfl, .int (0 + i), rfl, m, 0 + i, rfl, rfl, a, c, _, rfl, by omega, by omega, w3, fun H4 r d hok er w4 k4 => ?_⟩
      have eD4 := k4 _ _ nDa nDc eD
      refine ⟨D, _, _, rfl, rfl, eD4, ?_, some (.int (0 + i)), rs ++ [r], ds ++ [d], rfl, ?_, ?_, ?_, ?_, w4.upd nDa nDc, ?_⟩
      · rw [List.length_map, awLen hd]
        exact small1000 (by omega)
      · rw [upd_same, List.map_append]
        rfl
      · exact (tups_put eD4).ds (awSnoc (F := fun r d => H4 r = some (.tup (dV d))) er ((k4.tups w3).ds hd))
      · rw [List.length_append, hl]
        rfl
      · refine dsOk_snoc ok ?_
        rw [hl]
        have : m + (0 + (i : Int)) = m + i := by omega
        rw [this] at hok
        exact hok
      · intro b o n1 n2 e
        have nbD : b ≠ D := by
          intro z
          have z1 := kH b o n1 n2 e
          rw [z, hD] at z1
          cases z1
        rw [upd_ne nbD]
        exact k4 b o n1 n2 (k3 b o n1 n2 e)
    · obtain ⟨y, rs, ds, rfl, eD, hd, hl, ok, w3, k3⟩ := hp
      refine ⟨.int m, rfl, .int sz, rfl, m, sz, rfl, rfl, _, 1, rfl, rfl, ?_⟩
      refine ⟨fun σ4 H4 => ∃ o, σ4 = [some (.ref a), some (.int m), some (.int n), some (.int sz), some (.bl (decide (la > 0))), some (.ref D), y, some (.int o)] ∧ 0 ≤ o ∧ o < m + sz ∧ H4 D = some (.lst (rs.map V.ref)) ∧ DsAt H4 rs ds ∧ WL H4 a c ∧ Kp a c H H4, ?_, ?_⟩
      · refine ⟨_, rfl, _, rfl, ?_⟩
        by_cases hla : la > 0
        · rw [decide_eq_true hla]
          exact ⟨m + sz - 1, rfl, by omega, by omega, eD, hd, w3, k3⟩
        · rw [decide_eq_false hla]
          refine ⟨.ref a, rfl, .int m, rfl, .int sz, rfl, m, sz, rfl, rfl, a, c, _, rfl, by omega, by omega, w3, fun H4 o o0 o1 w4 k4 => ?_⟩
          exact ⟨o, rfl, o0, o1, k4 _ _ nDa nDc eD, (k4.tups w3).ds hd, w4, k3.trans k4⟩
      · rintro σ4 H4 ⟨o, rfl, o0, o1, eD4, hd4, w4, k4⟩
        refine ⟨.int m, rfl, .ref D, rfl, D, _, rfl, .inl ⟨.inl (.inl eD4), fun T hT => ?_⟩⟩
        refine ⟨.int o, rfl, by show 3 ≤ sizeLine; decide, fun R hR => ?_⟩
        have s1 : Same H4 (upd H4 T (.tup (rs.map V.ref))) := same_new hT
        have s2 := same_new (o := .tup [.int m, .ref T, .int o]) hR
        obtain ⟨n1, n2⟩ := w4.ne_new hT
        have w5 := w4.upd (o := .tup (rs.map V.ref)) n1 n2
        obtain ⟨n3, n4⟩ := w5.ne_new hR
        refine q _ R ds o ⟨T, rs, upd_same, s2 _ _ upd_same, (Same.tups (s1.trans s2)).ds hd4⟩ ⟨hm, hm2, by omega, ok, o0, by omega⟩ (by omega) (w5.upd n3 n4) (k4.trans (Same.kp (s1.trans s2)))
/-! ### rows, as numbers -/
structure Rw where
  m : Int
  ds : List Deed
  o : Int
abbrev RwAt (H : Hp) (a : Addr) (r : Rw) : Prop := RowAt H a r.m r.ds r.o
abbrev RwsAt (H : Hp) : List Addr → List Rw → Prop := Paired (RwAt H)
abbrev RwOk (r : Rw) : Prop := RowOk r.m r.ds r.o
theorem stayRws {H H' : Hp} (t : TupsStay H H') {as : List Addr} {rws : List Rw} (h : RwsAt H as rws) : RwsAt H' as rws := awMap (fun _ _ e => t.row e) h
theorem awAt0 {as : List Addr} {a : Addr} {l : List Addr} (h : as = a :: l) : atI (as.map V.ref) 0 = some (.ref a) := by
  subst h
  exact atI_nat (j := 0) rfl
theorem row0 {m o : Int} {D : Addr} : atI [V.int m, .ref D, .int o] 0 = some (.int m) := atI_nat (j := 0) rfl
def rLen (K : PySem.W.Frag) : List V → Hp → VK → Prop := fun xs H Q => ∃ p ys, xs = [.ref p] ∧ (SqL K H p ys ∨ SqT K H p ys) ∧ Q (.int ys.length) H
/-! ### enumerate of a tuple -/
section enumt
set_option maxHeartbeats 1000000 in
theorem meets_enum1 {v : Value} {o : Obj} {H : Heap → Prop} (B : Begins v o H) :
    Meets (Builtin.«enumerate.__new__» ⟨[.type "enumerate", v], []⟩) (fun _ R s => H s.heap ∧
      R (.ok (.ret (.ref (s.heap.push o).objs.size))) { s with heap := (s.heap.push o).push { cls := .type "enumerate", data := .fields #[.none, .bool false, .ref s.heap.objs.size, rawInt 0, .none, .none] } }) :=
  .of_wp fun prog w A R s h => by
    obtain ⟨hp, g, d, tk, os⟩ := s; obtain ⟨h1, h⟩ := h
    have hsub := sub_enumerate
    have q1 : ∀ {A' : Around} {E : Value → Shared → Prop} {Q : Value → Shared → Prop}, Q (.ref hp.objs.size) ⟨hp.push o, g, d, tk, os⟩ → wpAny (model prog w) A' (pyIter v) Q E ⟨hp, g, d, tk, os⟩ :=
      fun q => B.iter prog w _ _ ⟨hp, g, d, tk, os⟩ _ h1 q
    wp_walk using q1
    refine wpAny_stack_any fun st => wpAny_pure ?_
    split
    · rename_i c _ _ _ _ _
      cases (c == Value.type "enumerate")
      · wp_walk using q1
        exact ⟨_, rfl, h⟩
      · wp_walk using q1
        exact ⟨_, rfl, h⟩
    · wp_walk using q1
      exact ⟨_, rfl, h⟩
theorem enum1 {prog : Program} {w : World} {A : Around} {E : Value → Shared → Prop} {s : Shared} {v : Value} {o : Obj} {H : Heap → Prop} {Q : Value → Shared → Prop} (B : Begins v o H) (h1 : H s.heap)
    (h : ∀ h', IsEnum h' (s.heap.objs.size + 1) s.heap.objs.size 0 .none → h'.get? s.heap.objs.size = some o → h'.objs.size = s.heap.objs.size + 2 →
      (∀ b o, s.heap.get? b = some o → h'.get? b = some o) → Q (.ref (s.heap.objs.size + 1)) { s with heap := h' }) :
    wpAny (model prog w) A (call (.type "enumerate") [v]) Q E s := by
  refine callType_new F.called_enumerate (by decide) (F.typeCall_enumerate_1 _) (F.newCall_enumerate_1 _) (fun obj => F.args_object_init_2 obj _) F.entry_enumerate_new
    (meets_enum1 B) ⟨h1, ?_⟩
  have hz : (s.heap.push o).objs.size = s.heap.objs.size + 1 := Heap.size_push ..
  show _ ∧ _
  rw [hz]
  have he : IsEnum ((s.heap.push o).push { cls := .type "enumerate", data := .fields #[.none, .bool false, .ref s.heap.objs.size, rawInt 0, .none, .none] }) (s.heap.objs.size + 1) s.heap.objs.size 0 .none := by
    have := Heap.get?_push_size (s.heap.push o) (o := { cls := .type "enumerate", data := .fields #[.none, .bool false, .ref s.heap.objs.size, rawInt 0, .none, .none] }) rfl
    rw [hz] at this; exact this
  refine ⟨⟨_, he, rfl⟩, h _ he (Heap.get?_push_of_some _ (Heap.get?_push_size _ B.free)) (by rw [Heap.size_push, hz]) fun b o x => Heap.get?_push_of_some _ (Heap.get?_push_of_some _ x)⟩
def IteT (K : PySem.W.Frag) (a : Addr) : It :=
  ⟨fun i H => ∃ (xs : List V) (x : V), SqT K H a xs ∧ xs[i]? = some x, fun i H v H' => ∃ T x, v = .ref T ∧ H T = none ∧ H' = upd H T (.tup [.int (i : Nat), x]) ∧ ∀ xs, SqT K H a xs → xs[i]? = some x, fun i H => ∃ xs : List V, SqT K H a xs ∧ xs.length = i⟩
theorem turn_enumT {elts : List Expr} {kk : Nat} {tpos : Pos} (a e it : Addr) (na : a ≠ it) (ne : e ≠ a) :
    Turn P w K (.Tuple elts kk tpos) (IteT K a) [e, it] e (fun i h => (∃ old, IsEnum h e it ((i : Nat) : Int) old) ∧ h.IsTupleIter it a i ∧ e ≠ it) where
  mem := by simp
  obj := fun i h st b hb => by
    obtain ⟨⟨old, he⟩, ⟨o, ho, hc, hd⟩, _⟩ := st
    have e' : b = e ∨ b = it := by simpa using hb
    rcases e' with z | z
    · rw [z]; exact ⟨_, he, fun v q => nomatch q⟩
    · rw [z]; exact ⟨o, ho, fun v q => by rw [hd] at q; cases q⟩
  keep := fun i h h' st k => let ⟨⟨old, he⟩, hi, hne⟩ := st; ⟨⟨old, k e (by simp) _ he⟩, hi.at fun o q => k it (by simp) o q, hne⟩
  item := by
    intro X hP hw hK hc i pins s σ H E I hf st hg
    subst hP hw hK
    obtain ⟨⟨old, he⟩, hit, hne⟩ := st
    obtain ⟨xs, x, hq, hx⟩ := hg
    obtain ⟨its, rv, p, hz⟩ := I.tuple hq
    obtain ⟨u, hu, ru⟩ := rv.get hx
    have hel : e < s.heap.objs.size := Heap.lt_size he
    have hil : it < s.heap.objs.size := by obtain ⟨_, q, _⟩ := hit; exact Heap.lt_size q
    have hh : X.A.in1.handled = none := I.ok.hd hc
    have l1 : i < its.toArray.size := by
      have := (List.getElem?_eq_some_iff.mp hu).1
      simpa using this
    refine wpAny_pyNext_enum_itemD (Draws.tuple hh it a na its.toArray) he ⟨hit, p⟩ l1 hne (by simp [hne, ne]) fun v h' tk g ho hit' hT hsz hk => ?_
    have ev : v = u := by
      have g1' : its.toArray[i]? = some v := g
      have e : its[i]? = some v := by simpa using g1'
      rw [hu] at e
      exact (Option.some.inj e).symm
    subst ev
    refine ⟨_, rfl, wpAny_letOwnedTupleGo_enum (s := { s with heap := h', toks := tk + 1 }) ho fun h'' he' sb => ?_⟩
    have hT2 : h''.get? s.heap.objs.size = some { cls := .type "tuple", data := .seq #[.int i tk, v] } := (sb.2 _ (Nat.ne_of_gt hel)).trans hT
    have new : ObjOk X.prog X.w (upd H s.heap.objs.size (.tup [.int (i : Nat), x])) h'' s.heap.objs.size (.tup [.int (i : Nat), x]) :=
      ⟨by show 2 ≤ sizeLine; decide, [.int i tk, v], .cons ⟨_, rfl⟩ (.cons ru .nil), ⟨_, hT2, rfl, _, rfl⟩⟩
    have I1 : Inv X pins σ (upd H s.heap.objs.size (.tup [.int (i : Nat), x])) { s with heap := h'', toks := tk + 1 } :=
      I.turnedNew (ch := [e, it]) (fun b ob hb q => (sb.2 b (fun z => hb (by simp [z]))).trans (hk b ob (fun z => hb (by simp [z])) (fun z => hb (by simp [z])) q)) hf (Nat.le_refl _) new
    refine ⟨.ref s.heap.objs.size, _, I1, rfl, ⟨_, x, rfl, I.hok.fresh (Nat.le_refl _), rfl, fun ys hy => by rw [I.tuple_inj hy hq]; exact hx⟩, ⟨⟨v, ?_⟩, hit'.1.at fun o q => (sb.2 it (Ne.symm hne)).trans q, hne⟩, fun b hb => ?_⟩
    · have e1 : ((i + 1 : Nat) : Int) = (i : Int) + 1 := by omega
      rw [e1]; exact he'
    · have hb' : b < s.heap.objs.size := by
        have e' : b = e ∨ b = it := by simpa using hb
        rcases e' with z | z
        · rw [z]; exact hel
        · rw [z]; exact hil
      rw [upd_ne (Nat.ne_of_lt hb')]
      exact (hf b hb).1
  done := by
    intro X hP hw hK hc i pins s σ H E I hf st hg
    subst hP hw hK
    obtain ⟨⟨old, he⟩, hit, hne⟩ := st
    obtain ⟨xs, hq, hx⟩ := hg
    obtain ⟨its, rv, p, hz⟩ := I.tuple hq
    obtain ⟨f0, f1, f2, f3, f4, f5⟩ := hf it (by simp)
    have hl := rv.length
    have hh : X.A.in1.handled = none := I.ok.hd hc
    have ei : i = its.toArray.size := by rw [List.size_toArray]; omega
    exact wpAny_pyNext_enum_endD (Draws.tuple hh it a na its.toArray) he ⟨by rw [← ei]; exact hit, p⟩ fun h' eb => ⟨rfl, I.turned (t' := s.toks) (fun b o hb q => eb b o hb q) f0 f1 f3 f4 f5⟩
  self := fun A i s Q E st h => let ⟨⟨_, he⟩, _⟩ := st; wpAny_pyIter_enum he h
def iEnumT (K : PySem.W.Frag) (ta : TA) : TI := fun σ H R => ta σ H fun vs H1 => ∃ a xs, vs = [.ref a] ∧ SqT K H1 a xs ∧ R (IteT K a) H1
theorem pi_enumT {X : Cx} {e : Expr} {ta : TA} {p pos tpos : Pos} {elts : List Expr} {kk : Nat} (hg : Gl X "enumerate") (hm : X.mg "enumerate" = none) (ha : PA X [e] ta) (hs : starEach [e] X.env = [(false, eval e X.env)] := by rfl) :
    PI X (.Tuple elts kk tpos) (.Call (.Name "enumerate" p) [e] [] pos) (iEnumT X.K ta) := by
  refine ⟨fun pins s σ H R I h => ?_⟩
  refine Call_ (ld_blt I hg hm boot_enumerate (PyProof.Rows.callWith_type1 (thn (ha.run pos pins s σ H _ I h) fun us s1 ⟨vs, H1, I1, r1, q1⟩ => ?_) hs rfl))
  obtain ⟨a, xs, ex, hq, q⟩ := q1
  subst ex
  cases r1 with
  | cons r rr =>
    cases rr
    cases r
    obtain ⟨its, rv, p', hz⟩ := I1.tuple hq
    have lb : a < s1.heap.objs.size := by
      obtain ⟨o2, e2, _⟩ := id p'
      exact Heap.lt_size e2
    refine enum1 (begins_tuple a its.toArray) p' fun h' he hit hsz hk => wpAny_pyIter_enum he ?_
    have I2 : Inv X pins σ H1 { s1 with heap := h' } := I1.kept (t' := s1.toks) hk
    refine ⟨s1.heap.objs.size + 1, [s1.heap.objs.size + 1, s1.heap.objs.size], _, _, H1, rfl, I2, turn_enumT a (s1.heap.objs.size + 1) s1.heap.objs.size (Nat.ne_of_lt lb) (Nat.ne_of_gt (Nat.lt_succ_of_lt lb)), ⟨⟨.none, he⟩, ⟨_, hit, rfl, rfl⟩, Nat.succ_ne_self _⟩, fun b hb => ?_, q⟩
    have e' : b = s1.heap.objs.size + 1 ∨ b = s1.heap.objs.size := by simpa using hb
    have hle : s1.heap.objs.size ≤ b := by
      rcases e' with z | z
      · rw [z]; exact Nat.le_succ _
      · rw [z]; exact Nat.le_refl _
    exact I1.fpOk hle (I1.hok.fresh hle)
theorem walk_enumT {a : Addr} {xs : List V} : Walk (IteT K a) xs.length (fun H => SqT K H a xs) (YPair (fun i => some (.int (i : Nat))) (fun i => xs[i]?)) where
  goes := fun i H hi q => ⟨xs, xs[i], q, List.getElem?_eq_getElem hi⟩
  stops := fun H q => ⟨xs, q, rfl⟩
  yields := fun i H v H2 hi q y => by
    obtain ⟨T, x, h1, h2, h3, h4⟩ := y
    exact ⟨T, .int (i : Nat), x, h1, h2, h3, rfl, h4 xs q⟩
end enumt
/-! ### rows written -/
def iS (i : Int) : Str := (toString i : String)
def vS : V → Str
  | .int i => iS i
  | .str x => x
  | _ => ""
def partS (x : Str) (l : List Int) : Str := Txt.join " " (x :: l.map iS)
def partsS (m : Int) (ds : List Deed) (o : Int) : List Str := partS "in" [m] :: (ds.map fun d => partS d.1 d.2) ++ [partS "out" [o]]
def rowS (m : Int) (ds : List Deed) (o : Int) : Str := Txt.join "; " (partsS m ds o)
section
variable {X : Cx}
def rStr (X : Cx) : List V → Hp → VK → Prop := fun xs H Q => ∃ v, xs = [v] ∧ ((∃ i, v = .int i ∧ i.natAbs.log2 < 1920) ∨ ∃ a, v = .str a) ∧ Q (.str (vS v)) H
theorem call_str_any : CallR X (.type "str") (rStr X) := by
  intro pins s σ H xs us Q I r h
  obtain ⟨v, rfl, h | h, q⟩ := h
  · obtain ⟨i, rfl, hi⟩ := h
    exact call_str_int pins s σ H _ us Q I r ⟨i, rfl, hi, q⟩
  · obtain ⟨a, rfl⟩ := h
    exact SkE.call_str_str pins s σ H _ us Q I r ⟨a, rfl, q⟩
end
theorem iS_len {i : Int} (h : i.natAbs < 10 ^ 3) : (iS i).length ≤ 4 := by
  have e := int_text_length_le10 (k := 3) (by decide) h
  unfold iS
  show (Str.ofString (toString i)).length ≤ 4
  rw [PySem.ofString_length]
  exact e
theorem tl_part (x : Str) (l : List Int) : TL.tl (partS x l) = TL.joinL [32] (TL.tl x :: l.map fun i => TL.tl (iS i)) := by
  unfold partS
  rw [TL.join_eq, TL.tl_join, List.map_cons, List.map_map]
  rfl
theorem joinL_len : ∀ (S : List Nat) (ps : List (List Nat)), (TL.joinL S ps).length ≤ (ps.map List.length).sum + ps.length * S.length
  | _, [] => by simp [TL.joinL]
  | _, [p] => by simp [TL.joinL]
  | S, p :: q :: r => by
    have := joinL_len S (q :: r)
    simp only [TL.joinL, List.length_append, List.map_cons, List.sum_cons, List.length_cons] at this ⊢
    simp only [Nat.add_mul, Nat.one_mul] at this ⊢
    omega
theorem part_len {x : Str} {l : List Int} (hx : x.length ≤ 5) (hl : l.length ≤ 2) (h : ∀ i ∈ l, i.natAbs < 1000) : (partS x l).length ≤ 20 := by
  rw [TL.len_tl, tl_part]
  refine Nat.le_trans (joinL_len _ _) ?_
  have hs : ∀ l : List Int, l.length ≤ 2 → (∀ i ∈ l, i.natAbs < 1000) → ((l.map fun i => TL.tl (iS i)).map List.length).sum ≤ 4 * l.length := by
    intro l
    induction l with
    | nil => intro _ _; simp
    | cons i l ih =>
      intro h1 h2
      have a := ih (by simp at h1; omega) fun j hj => h2 j (List.mem_cons_of_mem _ hj)
      have b := iS_len (i := i) (h2 i List.mem_cons_self)
      rw [TL.len_tl] at b
      simp only [List.map_cons, List.sum_cons, List.length_cons]
      omega
  have := hs l hl h
  rw [TL.len_tl] at hx
  simp only [List.map_cons, List.sum_cons, List.length_cons, List.length_map, List.length_nil]
  omega
/-- a part of a row, as a tuple -/
abbrev PartAt (H : Hp) (r : Addr) (d : Deed) : Prop := H r = some (.tup (dV d))
structure PartOk (d : Deed) : Prop where
  word : d.1.length ≤ 5
  few : d.2.length ≤ 2
  nums : ∀ i ∈ d.2, i.natAbs < 1000
theorem small_log {i : Int} (h : i.natAbs < 1000) : i.natAbs.log2 < 1920 := by
  by_cases e : i.natAbs = 0
  · rw [e]; decide
  · have := (Nat.log2_lt (k := 10) e).mpr (Nat.lt_trans h (by decide))
    omega
theorem sum_le {l : List Nat} {b : Nat} (h : ∀ x ∈ l, x ≤ b) : l.sum ≤ l.length * b := by
  induction l with
  | nil => simp
  | cons x l ih =>
    have := ih fun y hy => h y (List.mem_cons_of_mem _ hy)
    have := h x List.mem_cons_self
    rw [List.sum_cons, List.length_cons, Nat.add_mul]
    omega
theorem partOk_deed {m : Int} {d : Deed} (h : DeedOk m d) (hm : m ≤ 100) : PartOk d := by
  obtain ⟨h1, h2, h3⟩ := fw_short _ h.word
  refine ⟨h1, ?_, fun i hi => ?_⟩
  · have e : (d.2.length : Int) ≤ 2 := h3
    omega
  · have := h.ahead i hi
    omega
theorem partOk_in {x : Str} {i : Int} (hx : x.length ≤ 5) (h : i.natAbs < 1000) : PartOk (x, [i]) := ⟨hx, by show 1 ≤ 2; decide, fun j hj => by rw [List.mem_singleton.mp hj]; exact h⟩
def spShow : Sp := fun vs H Q _ => ∃ (R : Addr) (m o : Int) (ds : List Deed), vs = [.ref R] ∧ RowAt H R m ds o ∧ RowOk m ds o ∧ ∀ H', Same H H' → Q (.str (rowS m ds o)) H'
/-! ### the law's own text -/
theorem in_part {x y : Str} {i : Int} (h : TL.tl y = TL.tl x ++ [32]) : y ++ iS i = partS x [i] := by
  apply TL.ext_tl
  rw [TL.tl_append, tl_part, h]
  simp [TL.joinL]
abbrev rStrX : List V → Hp → VK → Prop := fun xs H Q => ∃ v, xs = [v] ∧ ((∃ i, v = .int i ∧ i.natAbs.log2 < 1920) ∨ ∃ a, v = .str a) ∧ Q (.str (vS v)) H
theorem ok_ltext {f : Addr} {fd : FuncData} {k : Nat} (F : Fun K "_law_text" "_law_text" s_law_text f fd) (mS : mg "str" = none) : FnOk P w K mg base CX0 (k + 1) f fd ["row"] spShow := by
  refine F.ok sc_law_text (fun vs H Q E h => ?_) (fun cdv A outer s H vs Q E hr h => ?_)
  · obtain ⟨R, m, o, ds, rfl, _⟩ := h
    rfl
  · obtain ⟨R, m, o, ds, rfl, hrow, hok, q⟩ := h
    obtain ⟨D, rs, eR, eD, hd⟩ := id hrow
    refine ⟨_, pss_cons (ps_set (i := 1) sc_law_text.nd rfl (.inl rfl) (pe_lst (pa_cons (pe_op op_add_str pe_str (pe_callTy (r := rStrX) call_str_any (by rfl) mS (by decide +kernel) (pa_cons (pe_ix ix_tup (pv 0) pe_int (fun _ _ => rfl)) pa_nil))) pa_nil)))
      (pss_cons (ps_for PassesOwn.never rfl (pi_tup (pe_ix ix_tup (pv 0) pe_int (fun _ _ => rfl))) (pg_name (i := 2) sc_law_text.nd rfl (.inl rfl))
        (pss_one (ps_expr (pe_bm PySem.F.plainAttrs_list PySem.F.slot_list_append PySem.F.type_list_append mt_append (pv 1) (pa_cons (pe_join pe_str (pe_op op_cat (pe_lst (pa_cons (pe_ix ix_tup (pv 2) pe_int (fun _ _ => rfl)) pa_nil))
          (pe_lc (own := [("number", 3)]) (g := gName 3) (by rfl) sc_law_text.nd (pi_tup (pe_slice sl_tup (pv 2) (po_some pe_int) po_none)) (blkOk_by (own := [("number", 3)]) (N := N_law_text) (sc := defScope s_law_text) (by decide +kernel))
            (fun _ _ _ _ _ => pg_name (i := 3) sc_law_text.nd rfl (Or.inl rfl)) (fun _ _ _ _ _ => pts_nil)
            (fun _ _ _ _ _ => pe_callTy (r := rStrX) call_str_any (by rfl) mS (by decide +kernel) (pa_cons (pv 3) pa_nil))))) pa_nil)))))
      (pss_one (ps_ret (pe_join pe_str (pe_op op_cat (pv 1) (pe_lst (pa_cons (pe_op op_add_str pe_str (pe_callTy (r := rStrX) call_str_any (by rfl) mS (by decide +kernel) (pa_cons (pe_ix ix_tup (pv 0) pe_int (fun _ _ => rfl)) pa_nil))) pa_nil))))))), ?_⟩
    have h8 := hok.len
    have lr := awLen hd
    have m1 := hok.m1
    have m3 := hok.m3
    have o0 := hok.o0
    have o1 := hok.o1
    have hm : m.natAbs < 1000 := by omega
    have ho : o.natAbs < 1000 := by omega
    have ein : ("in " : Str) ++ iS m = partS "in" [m] := in_part (by decide +kernel)
    have eout : ("out " : Str) ++ iS o = partS "out" [o] := in_part (by decide +kernel)
    have okd : ∀ d ∈ ds, PartOk d := by
      intro d hd'
      obtain ⟨kk, hk⟩ := List.mem_iff_getElem?.mp hd'
      have := (List.getElem?_eq_some_iff.mp hk).1
      exact partOk_deed (hok.deeds.each kk d hk) (by omega)
    refine ⟨.ref R, rfl, R, _, 0, .int m, rfl, rfl, SqT.of eR, rfl, .int m, rfl, .inl ⟨m, rfl, small_log hm⟩, "in ", iS m, rfl, rfl, ?_, (by show 1 ≤ sizeLine; decide), fun L hL => ?_⟩
    · have a1 : ("in " : Str).length = 3 := by decide +kernel
      have := iS_len hm
      rw [a1, sizeLine_eq]
      omega
    rw [ein]
    have sL : ∀ o, Same H (upd H L o) := fun o => same_new hL
    refine ⟨.ref R, rfl, R, _, 1, .ref D, rfl, rfl, SqT.of (sL _ _ _ eR), rfl, D, rfl, ⟨_, SqT.of (sL _ _ _ eD)⟩, for_tup (K := K) (a := D) (xs := rs.map V.ref) (fun j σ H3 => ∃ y, σ = [some (.ref R), some (.ref L), y, none] ∧ H3 L = some (.lst ((partS "in" [m] :: (ds.take j).map fun d => partS d.1 d.2).map V.str)) ∧ Same H H3) ⟨none, rfl, upd_same, sL _⟩ (fun j σ H3 _ h3 => ?_) (fun j x σ H3 hx h3 => ?_) (fun σ H3 h3 => ?_)⟩
    · obtain ⟨_, _, _, s3⟩ := h3
      exact SqT.of (s3 _ _ eD)
    · obtain ⟨y, rfl, eL, s3⟩ := h3
      have hjl := (List.getElem?_eq_some_iff.mp hx).1
      rw [List.length_map] at hjl
      rw [List.getElem?_map] at hx
      obtain ⟨b, hb, rfl⟩ := Option.map_eq_some_iff.mp hx
      obtain ⟨d, hd1, hd2⟩ := awGet hd hb
      have hp := okd d (List.mem_of_getElem? hd1)
      have hfew := hp.few
      have er := s3 _ _ hd2
      refine ⟨.ref L, rfl, .inl ⟨rfl, _, .inl (.inl eL)⟩, ⟨_, rfl⟩, .ref b, rfl, b, _, 0, .str d.1, rfl, rfl, SqT.of er, dv0 d, (by show 1 ≤ sizeLine; decide), fun U hU => ?_⟩
      have sU := same_new (o := .lst [.str d.1]) hU
      refine ⟨.ref b, rfl, 1, rfl, b, dV d, rfl, SqT.of (sU _ _ er), notWhole _ _, fun T hT => ?_⟩
      rw [show cutV (dV d) (some 1) none = d.2.map V.int from cutTail _ _]
      have sT := sU.trans (same_new (o := .tup (d.2.map V.int)) hT)
      have eU1 : upd (upd H3 U (.lst [.str d.1])) T (.tup (d.2.map V.int)) U = some (.lst [.str d.1]) := same_new hT _ _ upd_same
      obtain ⟨H5, hH5⟩ : ∃ H5, H5 = upd (upd H3 U (.lst [.str d.1])) T (.tup (d.2.map V.int)) := ⟨_, rfl⟩
      have eT5 : H5 T = some (.tup (d.2.map V.int)) := by rw [hH5]; exact upd_same
      rw [← hH5] at sT eU1 ⊢
      refine ⟨T, rfl, ⟨_, SqT.of eT5⟩, fun C hC => ?_⟩
      have sC : ∀ o, Same H5 (upd H5 C o) := fun o => same_new hC
      refine lc_tup (K := K) (a := T) (xs := d.2.map V.int) (fun j H6 => H6 = upd H5 C (.lst (((d.2.take j).map iS).map V.str))) rfl (fun j H6 _ h6 => ?_) (fun j x H6 hx h6 => ?_) (fun H6 h6 => ?_)
      · rw [h6]
        exact SqT.of (sC _ _ _ eT5)
      · subst h6
        rw [List.getElem?_map] at hx
        obtain ⟨i, hi, rfl⟩ := Option.map_eq_some_iff.mp hx
        refine ⟨rfl, .int i, rfl, .int i, rfl, .inl ⟨i, rfl, small_log (hp.nums i (List.mem_of_getElem? hi))⟩, _, upd_same, ?_, ?_⟩
        · rw [List.length_map, List.length_map, List.length_take]
          exact small1000 (by omega)
        · rw [upd_upd, List.take_add_one, hi]
          simp [vS]
      · have eC : H6 C = some (.lst ((d.2.map iS).map V.str)) := by
          rw [h6, upd_same, List.length_map, List.take_length]
        have s6 : Same H5 H6 := by rw [h6]; exact sC _
        refine ⟨U, C, _, _, rfl, rfl, s6 _ _ eU1, eC, ?_, fun p hp' => ?_⟩
        · rw [List.length_map, List.length_map]
          exact Nat.le_of_lt (small1000 (by show 1 + d.2.length ≤ 1000; omega))
        have sp := same_new (o := .lst ([V.str d.1] ++ (d.2.map iS).map V.str)) hp'
        have s36 : Same H3 (upd H6 p (.lst ([V.str d.1] ++ (d.2.map iS).map V.str))) := sT.trans (s6.trans sp)
        have eL6 := s36 _ _ eL
        refine ⟨" ", p, d.1 :: d.2.map iS, rfl, rfl, .inl (.inl (.inl upd_same)), ?_, L, _, _, rfl, rfl, eL6, ?_, some (.ref b), rfl, ?_, ?_⟩
        · have h1 : ∀ x ∈ (d.1 :: d.2.map iS).map Str.length, x ≤ 5 := by
            intro x hx
            obtain ⟨y, hy, rfl⟩ := List.mem_map.mp hx
            rcases List.mem_cons.mp hy with rfl | hy
            · exact hp.word
            · obtain ⟨i, hi, rfl⟩ := List.mem_map.mp hy
              exact Nat.le_trans (iS_len (hp.nums i hi)) (by decide)
          have h2 := sum_le h1
          have h3 : (" " : Str).length = 1 := by decide +kernel
          have h4 : ((d.1 :: d.2.map iS).map Str.length).length = d.2.length + 1 := by simp
          have h5 : (d.1 :: d.2.map iS).length = d.2.length + 1 := by simp
          rw [h4] at h2
          rw [h3, h5]
          show ((d.1 :: d.2.map iS).map Str.length).sum + _ ≤ _
          omega
        · rw [List.length_map, List.length_cons, List.length_map, List.length_take]
          exact small1000 (by omega)
        · rw [upd_same, List.take_add_one, hd1]
          simp [partS]
        · intro b' u e
          rw [upd_ne (ne_of_none e hL)]
          exact s36 _ _ (s3 _ _ e)
    · obtain ⟨y, rfl, eL, s3⟩ := h3
      rw [List.length_map, lr, List.take_length] at eL
      refine ⟨⟨_, rfl⟩, .ref L, rfl, .ref R, rfl, R, _, 2, .int o, rfl, rfl, SqT.of (s3 _ _ eR), rfl, .int o, rfl, .inl ⟨o, rfl, small_log ho⟩, "out ", iS o, rfl, rfl, ?_, (by show 1 ≤ sizeLine; decide), fun M hM => ?_⟩
      · have a1 : ("out " : Str).length = 4 := by decide +kernel
        have := iS_len ho
        rw [a1, sizeLine_eq]
        omega
      rw [eout]
      have sM := same_new (o := .lst [.str (partS "out" [o])]) hM
      refine ⟨L, M, _, _, rfl, rfl, sM _ _ eL, upd_same, ?_, fun p hp' => ?_⟩
      · rw [List.length_map, List.length_cons, List.length_map]
        exact Nat.le_of_lt (small1000 (by show ds.length + 1 + 1 ≤ 1000; omega))
      have e : (partS "in" [m] :: ds.map fun d => partS d.1 d.2).map V.str ++ [V.str (partS "out" [o])] = (partsS m ds o).map V.str := by
        unfold partsS
        simp
      rw [e]
      have sp := same_new (o := .lst ((partsS m ds o).map V.str)) hp'
      refine ⟨"; ", p, partsS m ds o, rfl, rfl, .inl (.inl (.inl upd_same)), ?_, q _ (s3.trans (sM.trans sp))⟩
      have h1 : ∀ x ∈ (partsS m ds o).map Str.length, x ≤ 20 := by
        intro x hx
        obtain ⟨y, hy, rfl⟩ := List.mem_map.mp hx
        rcases List.mem_append.mp hy with hy | hy
        · rcases List.mem_cons.mp hy with rfl | hy
          · exact part_len (by decide +kernel) (by show 1 ≤ 2; decide) fun i hi => by rw [List.mem_singleton.mp hi]; exact hm
          · obtain ⟨d, hd', rfl⟩ := List.mem_map.mp hy
            have := okd d hd'
            exact part_len this.word this.few this.nums
        · rw [List.mem_singleton.mp hy]
          exact part_len (by decide +kernel) (by show 1 ≤ 2; decide) fun i hi => by rw [List.mem_singleton.mp hi]; exact ho
      have h2 := sum_le h1
      have h3 : ("; " : Str).length = 2 := by decide +kernel
      have h5 : (partsS m ds o).length = ds.length + 2 := by unfold partsS; simp
      rw [List.length_map, h5] at h2
      rw [h3, h5]
      show ((partsS m ds o).map Str.length).sum + _ ≤ _
      omega
/-! ### texts of rows, read and written -/
theorem snocOf {α : Type} : ∀ {l : List α}, l ≠ [] → ∃ l' c, l = l' ++ [c]
  | [], h => absurd rfl h
  | [x], _ => ⟨[], x, rfl⟩
  | x :: y :: r, _ => by
    obtain ⟨l', c, e⟩ := snocOf (l := y :: r) (by simp)
    exact ⟨x :: l', c, by rw [e]; rfl⟩
theorem lastD {α : Type} (x : α) (l : List α) (y d : α) : (x :: (l ++ [y])).getLastD d = y := by
  show List.getLast (x :: (l ++ [y])) _ = y
  rw [List.getLast_cons (by simp)]
  simp
theorem midL {α : Type} (x : α) (l : List α) (y : α) : ((x :: (l ++ [y])).drop 1).dropLast = l := by
  show (l ++ [y]).dropLast = l
  simp
abbrev Pt := Str × List (Option Int)
def figB (c : Nat) : Bool := decide (48 ≤ c ∧ c ≤ 57)
def numOk (l : List Nat) : Bool := decide (1 ≤ l.length ∧ l.length ≤ 19) && l.all figB && !(decide (l.head? = some 48) && !decide (l = [48]))
def numO (w : Str) : Option Int := if numOk (TL.tl w) = true then some ((NumText.digitsVal (TL.tl w) : Nat) : Int) else none
theorem numOk_parts {l : List Nat} (h : numOk l = true) : 1 ≤ l.length ∧ l.length ≤ 19 ∧ NumText.AllDigits l ∧ (l.head? = some 48 → l = [48]) := by
  unfold numOk at h
  rw [Bool.and_eq_true, Bool.and_eq_true] at h
  obtain ⟨⟨h1, h2⟩, h3⟩ := h
  have h1 := of_decide_eq_true h1
  refine ⟨h1.1, h1.2, fun c hc => ?_, fun hh => ?_⟩
  · have := of_decide_eq_true (List.all_eq_true.mp h2 c hc)
    omega
  · by_cases e : l = [48]
    · exact e
    · rw [decide_eq_true hh, decide_eq_false e] at h3
      cases h3
theorem dig_canon : ∀ (n : Nat) (l : List Nat), l.length = n → l ≠ [] → NumText.AllDigits l → (l.head? = some 48 → l = [48]) → TL.numL (NumText.digitsVal l) = l ∧ (l ≠ [48] → 1 ≤ NumText.digitsVal l)
  | 0, l, hl, hne, _, _ => absurd (List.length_eq_zero_iff.mp hl) hne
  | n + 1, l, hl, hne, hd, hh => by
    obtain ⟨l', c, rfl⟩ := snocOf hne
    have hc := hd c (List.mem_append_right _ List.mem_cons_self)
    rw [NumText.digitsVal_snoc]
    by_cases hl' : l' = []
    · subst hl'
      have e0 : NumText.digitsVal [] = 0 := rfl
      rw [e0]
      have e1 : 0 * 10 + (c - 48) = c - 48 := by omega
      rw [e1, TL.numL_lt (by omega)]
      refine ⟨?_, fun z => ?_⟩
      · show [48 + (c - 48)] = [c]
        congr 1
        omega
      · have : c ≠ 48 := fun q => z (by rw [q]; rfl)
        omega
    · have hd' : NumText.AllDigits l' := fun x hx => hd x (List.mem_append_left _ hx)
      obtain ⟨x, xs, ex⟩ : ∃ x xs, l' = x :: xs := by
        cases l' with
        | nil => exact absurd rfl hl'
        | cons x xs => exact ⟨x, xs, rfl⟩
      have hx48 : x ≠ 48 := fun q => by
        have z := hh (by rw [ex, q]; rfl)
        rw [ex] at z
        have := congrArg List.length z
        simp at this
      have hh' : l'.head? = some 48 → l' = [48] := fun q => by
        rw [ex] at q
        exact absurd (Option.some.inj q) hx48
      obtain ⟨a1, a2⟩ := dig_canon n l' (by rw [List.length_append] at hl; simpa using hl) hl' hd' hh'
      have a3 := a2 (fun q => by rw [ex] at q; exact hx48 (List.cons.inj q).1)
      refine ⟨?_, fun _ => by omega⟩
      rw [TL.numL_step (by omega)]
      have d1 : (NumText.digitsVal l' * 10 + (c - 48)) / 10 = NumText.digitsVal l' := by omega
      have d2 : 48 + (NumText.digitsVal l' * 10 + (c - 48)) % 10 = c := by omega
      rw [d1, d2, a1]
theorem tl_iS (k : Nat) : TL.tl (iS (k : Int)) = TL.numL k := TL.tl_num k
theorem numO_text {w : Str} {n : Int} (h : numO w = some n) : 0 ≤ n ∧ iS n = w := by
  unfold numO at h
  split at h
  · rename_i hk
    obtain ⟨h1, h2, h3, h4⟩ := numOk_parts hk
    have e := Option.some.inj h
    subst e
    refine ⟨by omega, TL.ext_tl ?_⟩
    rw [tl_iS]
    exact (dig_canon _ _ rfl (fun z => by rw [z] at h1; simp at h1) h3 h4).1
  · cases h
theorem numO_num {n : Int} (h0 : 0 ≤ n) (h1 : n < 12) : numO (iS n) = some n := by
  obtain ⟨k, rfl⟩ := Int.eq_ofNat_of_zero_le h0
  unfold numO
  rw [tl_iS, TL.numL_val]
  have hk : k < 12 := by omega
  have : numOk (TL.numL k) = true := by
    have hj : k = 0 ∨ k = 1 ∨ k = 2 ∨ k = 3 ∨ k = 4 ∨ k = 5 ∨ k = 6 ∨ k = 7 ∨ k = 8 ∨ k = 9 ∨ k = 10 ∨ k = 11 := by omega
    rcases hj with rfl | rfl | rfl | rfl | rfl | rfl | rfl | rfl | rfl | rfl | rfl | rfl <;> decide +kernel
  rw [if_pos this]
def partO (t : Str) : Pt := match Txt.split t " " with | [] => ("", []) | w :: ws => (w, ws.map numO)
def ptOf (d : Deed) : Pt := (d.1, d.2.map some)
theorem nums_back : ∀ {ws : List Str} {nums : List Int}, ws.map numO = nums.map some → ws = nums.map iS
  | [], [], _ => rfl
  | [], _ :: _, h => by simp at h
  | _ :: _, [], h => by simp at h
  | w :: ws, i :: nums, h => by
    simp only [List.map_cons, List.cons.injEq] at h
    obtain ⟨h1, h2⟩ := h
    rw [nums_back h2, List.map_cons, (numO_text h1).2]
theorem partO_back {t : Str} {d : Deed} (h : partO t = ptOf d) : partS d.1 d.2 = t ∧ ∀ i ∈ d.2, 0 ≤ i := by
  have hj := PySem.StrLaws.join_split t " "
  unfold partO at h
  unfold ptOf at h
  unfold partS
  rw [TL.join_eq]
  split at h
  · rename_i e
    rw [e] at hj
    obtain ⟨h1, h2⟩ := Prod.mk.inj h
    have h3 : d.2 = [] := List.map_eq_nil_iff.mp h2.symm
    rw [← h1, h3]
    exact ⟨hj, fun _ z => nomatch z⟩
  · rename_i w ws e
    rw [e] at hj
    obtain ⟨h1, h2⟩ := Prod.mk.inj h
    have h3 := nums_back h2
    refine ⟨by rw [← h1, ← h3]; exact hj, fun i hi => ?_⟩
    obtain ⟨k, hk⟩ := List.mem_iff_getElem?.mp hi
    have := congrArg (fun l => l[k]?) h2
    simp only [List.getElem?_map, hk, Option.map_some] at this
    obtain ⟨w', _, hw'⟩ := Option.map_eq_some_iff.mp this
    exact (numO_text hw').1
theorem partO_of {d : Deed} (hx : 32 ∉ TL.tl d.1) (hn : ∀ i ∈ d.2, 0 ≤ i ∧ i < 12) : partO (partS d.1 d.2) = ptOf d := by
  have hs : Txt.split (Txt.join " " (d.1 :: d.2.map iS)) " " = d.1 :: d.2.map iS := TL.split_join (y := " ") (s := 32) (S := []) (by decide +kernel) (by decide +kernel) (by simp) (fun p hp => by
    rcases List.mem_cons.mp hp with rfl | hp
    · exact hx
    · obtain ⟨i, hi, rfl⟩ := List.mem_map.mp hp
      obtain ⟨k, rfl⟩ := Int.eq_ofNat_of_zero_le (hn i hi).1
      rw [tl_iS]
      exact TL.numL_free (by omega))
  unfold partO partS
  rw [hs]
  show (d.1, (d.2.map iS).map numO) = ptOf d
  unfold ptOf
  rw [List.map_map]
  congr 1
  exact List.map_congr_left fun i hi => numO_num (hn i hi).1 (hn i hi).2
def partsO (t : Str) : List Pt := (Txt.split t "; ").map partO
def numB (m : Int) : Option Int → Bool
  | some i => decide (0 ≤ i) && decide (i < m)
  | none => false
def deedB (m : Int) (p : Pt) : Bool := fwL.any fun q => decide (q.1 = p.1) && (decide (q.2 = (p.2.length : Int)) && p.2.all (numB m))
def midB (m : Int) (l : List Pt) : List Bool := l.mapIdx fun i p => deedB (m + (i : Nat)) p
def rowB (m : Option Int) (mid : List Pt) (o : Option Int) : Bool := match m with
  | none => false
  | some m => decide (1 ≤ m ∧ m ≤ 3) && (decide (mid.length ≤ 8) && ((midB m mid).all id && numB (m + mid.length) o))
def midD (l : List Pt) : List Deed := l.map fun p => (p.1, p.2.map fun o => o.getD 0)
def readS (t : Str) : Option Rw :=
  let ps := partsO t
  let f := ps.headD ("", [])
  let l := ps.getLastD ("", [])
  if f.2.length = 1 ∧ f.1 = "in" ∧ l.2.length = 1 ∧ l.1 = "out" ∧ rowB (f.2.headD none) ((ps.drop 1).dropLast) (l.2.headD none) = true
  then some ⟨(f.2.headD none).getD 0, midD ((ps.drop 1).dropLast), (l.2.headD none).getD 0⟩ else none
theorem numB_some {m : Int} {x : Option Int} (h : numB m x = true) : ∃ i, x = some i ∧ 0 ≤ i ∧ i < m := by
  cases x with
  | none => cases h
  | some i =>
    unfold numB at h
    rw [Bool.and_eq_true] at h
    exact ⟨i, rfl, of_decide_eq_true h.1, of_decide_eq_true h.2⟩
theorem deedB_ok {m : Int} {p : Pt} (h : deedB m p = true) : ptOf (p.1, p.2.map fun o => o.getD 0) = p ∧ DeedOk m (p.1, p.2.map fun o => o.getD 0) := by
  unfold deedB at h
  obtain ⟨q, hq, hb⟩ := List.any_eq_true.mp h
  rw [Bool.and_eq_true, Bool.and_eq_true] at hb
  obtain ⟨h1, h2, h3⟩ := hb
  have h1 := of_decide_eq_true h1
  have h2 := of_decide_eq_true h2
  have h4 := List.all_eq_true.mp h3
  refine ⟨?_, ?_, ?_⟩
  · unfold ptOf
    rw [List.map_map]
    have : p.2.map (some ∘ fun o => o.getD 0) = p.2 := by
      conv => rhs; rw [← List.map_id p.2]
      refine List.map_congr_left fun x hx => ?_
      obtain ⟨i, rfl, _⟩ := numB_some (h4 x hx)
      rfl
    rw [this]
  · show (p.1, ((p.2.map _).length : Int)) ∈ fwL
    rw [List.length_map, ← h1, ← h2]
    exact hq
  · intro i hi
    obtain ⟨x, hx, rfl⟩ := List.mem_map.mp hi
    obtain ⟨i, rfl, h0, h5⟩ := numB_some (h4 x hx)
    exact ⟨h0, h5⟩
theorem deedB_of {m : Int} {d : Deed} (h : DeedOk m d) : deedB m (ptOf d) = true := by
  unfold deedB
  refine List.any_eq_true.mpr ⟨_, h.word, ?_⟩
  rw [Bool.and_eq_true, Bool.and_eq_true]
  refine ⟨decide_eq_true rfl, decide_eq_true ?_, List.all_eq_true.mpr fun x hx => ?_⟩
  · show (d.2.length : Int) = ((d.2.map some).length : Int)
    rw [List.length_map]
  · obtain ⟨i, hi, rfl⟩ := List.mem_map.mp hx
    obtain ⟨h0, h1⟩ := h.ahead i hi
    show (decide (0 ≤ i) && decide (i < m)) = true
    rw [decide_eq_true h0, decide_eq_true h1]
    rfl
theorem midB_at {m : Int} {l : List Pt} (h : (midB m l).all id = true) {k : Nat} {p : Pt} (hk : l[k]? = some p) : deedB (m + (k : Nat)) p = true := by
  refine List.all_eq_true.mp h _ ?_
  refine List.mem_of_getElem? (i := k) ?_
  unfold midB
  rw [List.getElem?_mapIdx, hk]
  rfl
theorem midB_of {m : Int} {l : List Pt} (h : ∀ k p, l[k]? = some p → deedB (m + (k : Nat)) p = true) : (midB m l).all id = true := by
  refine List.all_eq_true.mpr fun b hb => ?_
  obtain ⟨k, hk⟩ := List.mem_iff_getElem?.mp hb
  unfold midB at hk
  rw [List.getElem?_mapIdx] at hk
  obtain ⟨p, hp, rfl⟩ := Option.map_eq_some_iff.mp hk
  exact h k p hp
theorem rowB_ok {m o : Option Int} {mid : List Pt} (h : rowB m mid o = true) : m = some (m.getD 0) ∧ o = some (o.getD 0) ∧ (midD mid).map ptOf = mid ∧ RwOk ⟨m.getD 0, midD mid, o.getD 0⟩ := by
  cases m with
  | none => cases h
  | some m =>
    unfold rowB at h
    simp only [Bool.and_eq_true] at h
    obtain ⟨h1, h2, h3, h4⟩ := h
    have h1 := of_decide_eq_true h1
    have h2 := of_decide_eq_true h2
    obtain ⟨i, rfl, i0, i1⟩ := numB_some h4
    have ld : (midD mid).length = mid.length := by unfold midD; rw [List.length_map]
    refine ⟨rfl, rfl, ?_, h1.1, h1.2, by show (midD mid).length ≤ 8; rw [ld]; exact h2, ⟨fun k d hk => ?_⟩, i0, by show i < m + ((midD mid).length : Int); rw [ld]; exact i1⟩
    · unfold midD
      rw [List.map_map]
      conv => rhs; rw [← List.map_id mid]
      refine List.map_congr_left fun p hp => ?_
      obtain ⟨k, hk⟩ := List.mem_iff_getElem?.mp hp
      exact (deedB_ok (midB_at h3 hk)).1
    · have hk' : (midD mid)[k]? = some d := hk
      unfold midD at hk'
      rw [List.getElem?_map] at hk'
      obtain ⟨p, hp, rfl⟩ := Option.map_eq_some_iff.mp hk'
      exact (deedB_ok (midB_at h3 hp)).2
theorem rowB_of {r : Rw} (h : RwOk r) : rowB (some r.m) (r.ds.map ptOf) (some r.o) = true := by
  unfold rowB
  simp only [Bool.and_eq_true]
  have h1 := h.m1
  have h3 := h.m3
  have o0 := h.o0
  have o1 := h.o1
  refine ⟨decide_eq_true ⟨h1, h3⟩, decide_eq_true (by rw [List.length_map]; exact h.len), midB_of fun k p hk => ?_, ?_⟩
  · rw [List.getElem?_map] at hk
    obtain ⟨d, hd, rfl⟩ := Option.map_eq_some_iff.mp hk
    exact deedB_of (h.deeds.each k d hd)
  · show (decide (0 ≤ r.o) && decide (r.o < r.m + ((r.ds.map ptOf).length : Int))) = true
    rw [List.length_map, decide_eq_true o0, decide_eq_true o1]
    rfl
theorem midD_of (ds : List Deed) : midD (ds.map ptOf) = ds := by
  unfold midD
  rw [List.map_map]
  conv => rhs; rw [← List.map_id ds]
  refine List.map_congr_left fun d _ => ?_
  show (d.1, (d.2.map some).map fun o => o.getD 0) = d
  rw [List.map_map]
  have : d.2.map ((fun o => o.getD 0) ∘ some) = d.2 := by
    conv => rhs; rw [← List.map_id d.2]
    exact List.map_congr_left fun _ _ => rfl
  rw [this]
theorem len1 {l : List (Option Int)} (h : l.length = 1) : l = [l.headD none] := by
  cases l with
  | nil => simp at h
  | cons x xs =>
    have : xs = [] := List.length_eq_zero_iff.mp (by simpa using h)
    rw [this]
    rfl
theorem read_back {t : Str} {r : Rw} (h : readS t = some r) : RwOk r ∧ rowS r.m r.ds r.o = t := by
  unfold readS at h
  simp only at h
  split at h
  · rename_i hc
    obtain ⟨c1, c2, c3, c4, c5⟩ := hc
    have e := Option.some.inj h
    subst e
    obtain ⟨a1, a2, a3, a4⟩ := rowB_ok c5
    refine ⟨a4, ?_⟩
    have hj := PySem.StrLaws.join_split t "; "
    obtain ⟨S, hS⟩ : ∃ S, S = Txt.split t "; " := ⟨_, rfl⟩
    rw [← hS] at hj
    have hps : partsO t = S.map partO := by rw [hS]; rfl
    rw [hps] at c1 c2 c3 c4 a1 a2 a3 ⊢
    cases S with
    | nil => simp at c1
    | cons s0 S0 =>
      by_cases hS0 : S0 = []
      · subst hS0
        have z1 : (partO s0).1 = "in" := c2
        have z2 : (partO s0).1 = "out" := c4
        rw [z1] at z2
        exact absurd z2 (by decide +kernel)
      · obtain ⟨ms, sl, rfl⟩ := snocOf hS0
        have eh : ((s0 :: (ms ++ [sl])).map partO).headD ("", []) = partO s0 := rfl
        have el : ((s0 :: (ms ++ [sl])).map partO).getLastD ("", []) = partO sl := by
          rw [List.map_cons, List.map_append]
          exact lastD _ _ _ _
        have em : (((s0 :: (ms ++ [sl])).map partO).drop 1).dropLast = ms.map partO := by
          rw [List.map_cons, List.map_append]
          exact midL _ _ _
        rw [eh] at c1 c2 a1 ⊢
        rw [el] at c3 c4 a2 ⊢
        rw [em] at a3 ⊢
        have f0 : partO s0 = ptOf ("in", [((partO s0).2.headD none).getD 0]) := by
          have := len1 c1
          rw [a1] at this
          unfold ptOf
          exact Prod.ext c2 this
        have fl : partO sl = ptOf ("out", [((partO sl).2.headD none).getD 0]) := by
          have := len1 c3
          rw [a2] at this
          unfold ptOf
          exact Prod.ext c4 this
        have g0 := (partO_back f0).1
        have gl := (partO_back fl).1
        have gm : (midD (ms.map partO)).map (fun d => partS d.1 d.2) = ms := by
          have key : ∀ (ms : List Str) (ds : List Deed), ds.map ptOf = ms.map partO → ds.map (fun d => partS d.1 d.2) = ms := by
            intro ms
            induction ms with
            | nil =>
              intro ds hds
              rw [List.map_nil] at hds
              rw [List.map_eq_nil_iff.mp hds]
              rfl
            | cons s ms ih =>
              intro ds hds
              cases ds with
              | nil => simp at hds
              | cons d ds =>
                simp only [List.map_cons, List.cons.injEq] at hds ⊢
                exact ⟨(partO_back hds.1.symm).1, ih ds hds.2⟩
          exact key ms _ a3
        show Txt.join "; " (partsS _ _ _) = t
        unfold partsS
        rw [gm]
        show Txt.join "; " (partS "in" [((partO s0).2.headD none).getD 0] :: ms ++ [partS "out" [((partO sl).2.headD none).getD 0]]) = t
        rw [show partS "in" [((partO s0).2.headD none).getD 0] = s0 from g0, show partS "out" [((partO sl).2.headD none).getD 0] = sl from gl, TL.join_eq]
        exact hj
  · cases h
theorem mem_joinL {c : Nat} {S : List Nat} : ∀ {ps : List (List Nat)}, c ∈ TL.joinL S ps → c ∈ S ∨ ∃ p ∈ ps, c ∈ p
  | [], h => by cases h
  | [p], h => .inr ⟨p, List.mem_cons_self, h⟩
  | p :: q :: r, h => by
    rcases List.mem_append.mp h with h | h
    · exact .inr ⟨p, List.mem_cons_self, h⟩
    · rcases List.mem_append.mp h with h | h
      · exact .inl h
      · rcases mem_joinL h with h | ⟨p', hp, h⟩
        · exact .inl h
        · exact .inr ⟨p', List.mem_cons_of_mem _ hp, h⟩
theorem fw_signs : ∀ p ∈ fwL, ¬ 32 ∈ TL.tl p.1 ∧ ¬ 59 ∈ TL.tl p.1 := by decide +kernel
theorem part_free {x : Str} {l : List Int} (hx : 59 ∉ TL.tl x) (hl : ∀ i ∈ l, 0 ≤ i) : 59 ∉ TL.tl (partS x l) := by
  rw [tl_part]
  intro h
  rcases mem_joinL h with h | ⟨p, hp, h⟩
  · exact absurd h (by decide)
  · rcases List.mem_cons.mp hp with rfl | hp
    · exact hx h
    · obtain ⟨i, hi, rfl⟩ := List.mem_map.mp hp
      obtain ⟨k, rfl⟩ := Int.eq_ofNat_of_zero_le (hl i hi)
      rw [tl_iS] at h
      exact TL.numL_free (by omega) h
theorem read_show {r : Rw} (h : RwOk r) : readS (rowS r.m r.ds r.o) = some r := by
  have m1 := h.m1
  have m3 := h.m3
  have o0 := h.o0
  have o1 := h.o1
  have h8 := h.len
  have hd : ∀ d ∈ r.ds, ∃ k, DeedOk k d ∧ k ≤ 11 := by
    intro d hd'
    obtain ⟨k, hk⟩ := List.mem_iff_getElem?.mp hd'
    have := (List.getElem?_eq_some_iff.mp hk).1
    exact ⟨_, h.deeds.each k d hk, by omega⟩
  have hs : Txt.split (Txt.join "; " (partsS r.m r.ds r.o)) "; " = partsS r.m r.ds r.o := TL.split_join (y := "; ") (s := 59) (S := [32]) (by decide +kernel) (by decide +kernel) (by unfold partsS; simp) (fun p hp => by
    unfold partsS at hp
    rcases List.mem_append.mp hp with hp | hp
    · rcases List.mem_cons.mp hp with rfl | hp
      · exact part_free (by decide +kernel) fun i hi => by rw [List.mem_singleton.mp hi]; omega
      · obtain ⟨d, hd', rfl⟩ := List.mem_map.mp hp
        obtain ⟨k, ok, _⟩ := hd d hd'
        exact part_free (fw_signs _ ok.word).2 fun i hi => (ok.ahead i hi).1
    · rw [List.mem_singleton.mp hp]
      exact part_free (by decide +kernel) fun i hi => by rw [List.mem_singleton.mp hi]; exact o0)
  have hp : partsO (rowS r.m r.ds r.o) = ptOf ("in", [r.m]) :: (r.ds.map ptOf ++ [ptOf ("out", [r.o])]) := by
    unfold partsO rowS
    rw [hs]
    unfold partsS
    rw [List.map_append, List.map_cons, List.map_map]
    have e1 : partO (partS "in" [r.m]) = ptOf ("in", [r.m]) := partO_of (d := ("in", [r.m])) (show ¬ 32 ∈ TL.tl (Str.ofString "in") by decide +kernel) fun i hi => by rw [List.mem_singleton.mp hi]; omega
    have e2 : partO (partS "out" [r.o]) = ptOf ("out", [r.o]) := partO_of (d := ("out", [r.o])) (show ¬ 32 ∈ TL.tl (Str.ofString "out") by decide +kernel) fun i hi => by rw [List.mem_singleton.mp hi]; omega
    have e3 : r.ds.map (partO ∘ fun d => partS d.1 d.2) = r.ds.map ptOf := List.map_congr_left fun d hd' => by
      obtain ⟨k, ok, k11⟩ := hd d hd'
      exact partO_of (fw_signs _ ok.word).1 fun i hi => by have := ok.ahead i hi; omega
    rw [e1, e3]
    show _ :: _ ++ [partO (partS "out" [r.o])] = _
    rw [e2]
    rfl
  unfold readS
  simp only
  rw [hp]
  have eh : (ptOf ("in", [r.m]) :: (r.ds.map ptOf ++ [ptOf ("out", [r.o])])).headD ("", []) = ptOf ("in", [r.m]) := rfl
  have el : (ptOf ("in", [r.m]) :: (r.ds.map ptOf ++ [ptOf ("out", [r.o])])).getLastD ("", []) = ptOf ("out", [r.o]) := lastD _ _ _ _
  have em : ((ptOf ("in", [r.m]) :: (r.ds.map ptOf ++ [ptOf ("out", [r.o])])).drop 1).dropLast = r.ds.map ptOf := midL _ _ _
  rw [eh, el, em]
  rw [if_pos ⟨rfl, rfl, rfl, rfl, rowB_of h⟩, midD_of]
  rfl
/-! ### is_row, of what a text tells -/
def oV : Option Int → V
  | some i => .int i
  | none => .non
def pV (p : Pt) : List V := .str p.1 :: p.2.map oV
abbrev PtsAt (H : Hp) : List Addr → List Pt → Prop := Paired fun r p => H r = some (.tup (pV p))
theorem stayPts {H H' : Hp} (t : TupsStay H H') {rs : List Addr} {ps : List Pt} (h : PtsAt H rs ps) : PtsAt H' rs ps := awMap (fun r _ e => t r _ e) h
def KeysFw : List DictEntry → Prop
  | [] => True
  | e :: r => (∃ q ∈ fwL, ∃ t, e.key = .str q.1 t) ∧ KeysFw r
theorem KeysFw.all : ∀ {l : List DictEntry}, KeysFw l → ∀ e ∈ l, ∃ q ∈ fwL, ∃ t, e.key = .str q.1 t
  | e :: r, h, x, hx => by
    rcases List.mem_cons.mp hx with rfl | hx
    · exact h.1
    · exact KeysFw.all h.2 x hx
theorem ns_no {pl : Addr} {es : Array DictEntry} {n : Nat} (pa : K.lookup pl = some ⟨.type "dict", none, .dict es n, #[]⟩) (pe : KeysFw es.toList) {z : Str} (hz : ∀ q ∈ fwL, ¬ q.1 = z) : PySem.W.nsIn K pl z = some none := by
  unfold PySem.W.nsIn
  rw [pa]
  have h1 : es.toList.find? (·.key.isStr z) = none := List.find?_eq_none.mpr fun e he => by
    obtain ⟨q, hq, t, ek⟩ := pe.all e he
    rw [ek]
    show ¬ (q.1 == z) = true
    simpa using hz q hq
  have h2 : es.toList.any (·.refKey) = false := List.any_eq_false.mpr fun e he => by
    obtain ⟨q, hq, t, ek⟩ := pe.all e he
    unfold DictEntry.refKey
    rw [ek]
    simp
  show (match es.toList.find? (·.key.isStr z) with | some e => some (some e.val) | none => if es.toList.any (·.refKey) then none else some none) = some none
  rw [h1, h2]
  rfl
theorem fw_uniq : ∀ p ∈ fwL, ∀ q ∈ fwL, p.1 = q.1 → p.2 = q.2 := by decide +kernel
theorem deedB_at {m n : Int} {p : Pt} (h : (p.1, n) ∈ fwL) : deedB m p = (decide (n = (p.2.length : Int)) && p.2.all (numB m)) := by
  unfold deedB
  cases e : (decide (n = (p.2.length : Int)) && p.2.all (numB m)) with
  | true => exact List.any_eq_true.mpr ⟨_, h, by rw [decide_eq_true rfl, Bool.true_and]; exact e⟩
  | false =>
    refine List.any_eq_false.mpr fun q hq => ?_
    by_cases hx : q.1 = p.1
    · have := fw_uniq q hq _ h hx
      rw [decide_eq_true hx, Bool.true_and, this]
      show ¬ (decide (n = (p.2.length : Int)) && p.2.all (numB m)) = true
      rw [e]
      exact Bool.false_ne_true
    · rw [decide_eq_false hx, Bool.false_and]
      exact Bool.false_ne_true
theorem deedB_no {m : Int} {p : Pt} (h : ∀ q ∈ fwL, ¬ q.1 = p.1) : deedB m p = false := List.any_eq_false.mpr fun q hq => by
  rw [decide_eq_false (h q hq), Bool.false_and]
  exact Bool.false_ne_true
structure PlOk (K : PySem.W.Frag) (w : World) (pl : Addr) (es : Array DictEntry) (n : Nat) : Prop where
  d : KDict K w pl es n
  at_ : ∀ p ∈ fwL, ∃ t, PySem.W.nsIn K pl p.1 = some (some (.int p.2 t))
  ks : KeysFw es.toList
def spWh : Sp := fun vs H Q _ => ∃ x : Option Int, vs = [oV x] ∧ Q (.bl x.isSome) H
theorem ok_wh {f : Addr} {fd : FuncData} {k : Nat} (F : Fun K "is_whole" "is_whole" s_is_whole f fd) (mi : mg "isinstance" = none) (mI : mg "int" = none) (mB : mg "bool" = none) : FnOk P w K mg base CX0 (k + 1) f fd ["thing"] spWh := by
  refine F.ok sc_is_whole (fun vs H Q E h => ?_) (fun cdv A outer s H vs Q E hr h => ?_)
  · obtain ⟨i, rfl, _⟩ := h
    rfl
  · obtain ⟨x, rfl, q⟩ := h
    refine ⟨_, pss_one (ps_ret (pe_and (pe_callB call_isi (by rfl) mi (by decide +kernel) (pa_cons (pv 0) (pa_cons (pe_bltn (v := .ty "int") (by rfl) mI (by decide +kernel) rfl) pa_nil))) (pe_one (pe_not (pe_callB call_isi (by rfl) mi (by decide +kernel) (pa_cons (pv 0) (pa_cons (pe_bltn (v := .ty "bool") (by rfl) mB (by decide +kernel) rfl) pa_nil))))))), ?_⟩
    cases x with
    | some i =>
      refine ⟨.int i, rfl, .int i, .ty "int", .type "int", .type "int", true, rfl, .ty "int", .base (.int i), kit_ty (by decide +kernel), true, rfl, iteT ?_⟩
      exact ⟨.int i, rfl, .int i, .ty "bool", .type "int", .type "bool", false, rfl, .ty "bool", .base (.int i), kit_ty (by decide +kernel), false, rfl, q⟩
    | none => exact ⟨.non, rfl, .non, .ty "int", .type "NoneType", .type "int", false, rfl, .ty "int", .base .non, kit_ty (by decide +kernel), false, rfl, iteF q⟩
def spNb : Sp := fun vs H Q _ => ∃ (x : Option Int) (m : Int), vs = [oV x, .int m] ∧ Q (.bl (numB m x)) H
theorem ok_nb {f fW : Addr} {fd fdW : FuncData} {k : Nat} (F : Fun K "is_number_below" "is_number_below" s_is_number_below f fd) (GW : FnOk P w K mg base CX0 (k + 1) fW fdW ["thing"] spWh) (kW : PySem.W.keepIn K (.ref fW) = true) (bW : Binds K fdW ["thing"] []) (gW : mg "is_whole" = some (.ref fW)) :
    FnOk P w K mg base CX0 (k + 2) f fd ["thing", "many"] spNb := by
  refine F.ok sc_is_number_below (fun vs H Q E h => ?_) (fun cdv A outer s H vs Q E hr h => ?_)
  · obtain ⟨i, m, rfl, _⟩ := h
    rfl
  · obtain ⟨x, m, rfl, q⟩ := h
    refine ⟨_, pss_one (ps_ret (pe_and (pe_call GW hr (by rfl) gW kW bW .nil pass0 (pa_cons (pv 0) pa_nil)) (pe_one (pe_chain op_le op_lt pe_int (pv 0) (pv 1))))), ?_⟩
    cases x with
    | none => exact ⟨.non, rfl, none, rfl, false, rfl, iteF q⟩
    | some i =>
      refine ⟨.int i, rfl, some i, rfl, true, rfl, iteT ?_⟩
      have q' : Q (.bl (decide (0 ≤ i) && decide (i < m))) H := q
      refine ⟨.int i, rfl, 0, i, rfl, rfl, _, rfl, ite2 (fun h0 => ?_) (fun h0 => ?_)⟩
      · rw [h0, Bool.true_and] at q'
        exact ⟨.int m, rfl, i, m, rfl, rfl, q'⟩
      · have h0' : decide (0 ≤ i) = false := by simpa using h0
        rw [h0', Bool.false_and] at q'
        exact q'
def spDe : Sp := fun vs H Q _ => ∃ (r : Addr) (p : Pt) (m : Int), vs = [.ref r, .int m] ∧ H r = some (.tup (pV p)) ∧ p.2.length ≤ 100000 ∧ ∀ H', Same H H' → Q (.bl (deedB m p)) H'
theorem all_id (l : List Bool) : l.all id = l.all fun b => b := rfl
theorem ok_de {f fN pl : Addr} {es : Array DictEntry} {n : Nat} {fd fdN : FuncData} {k : Nat} (F : Fun K "is_deed" "is_deed" s_is_deed f fd) (GN : FnOk P w K mg base CX0 (k + 2) fN fdN ["thing", "many"] spNb) (kN : PySem.W.keepIn K (.ref fN) = true) (bN : Binds K fdN ["thing", "many"] []) (gN : mg "is_number_below" = some (.ref fN))
    (D : PlOk K w pl es n) (gP : mg "PLACES" = some (.ref pl)) (mi : mg "isinstance" = none) (mt : mg "tuple" = none) (mS : mg "str" = none) (mn : mg "len" = none) (ma : mg "all" = none) : FnOk P w K mg base CX0 (k + 3) f fd ["thing", "ahead"] spDe := by
  refine F.ok sc_is_deed (fun vs H Q E h => ?_) (fun cdv A outer s H vs Q E hr h => ?_)
  · obtain ⟨r, d, m, rfl, _⟩ := h
    rfl
  · obtain ⟨r, p, m, rfl, er, hlen, q⟩ := h
    refine ⟨_, pss_cons (ps_if (PW.pt (pw_or (pt_not (pt_val (pe_callB call_isi (by rfl) mi (by decide +kernel) (pa_cons (pv 0) (pa_cons (pe_bltn (v := .ty "tuple") (by rfl) mt (by decide +kernel) rfl) pa_nil))))) (pw_or1 (pt_cmpR op_eq (pe_callB call_len_seq (by rfl) mn PySem.boot_len (pa_cons (pv 0) pa_nil)) pe_int (nomark _))))) (pss_one (ps_ret pe_bl)) pss_nil)
      (pss_cons (ps_set (i := 2) sc_is_deed.nd rfl (.inl rfl) (pe_ix ix_tup (pv 0) pe_int (fun _ _ => rfl)))
      (pss_cons (ps_if (PW.pt (pw_or (pt_not (pt_val (pe_callB call_isi (by rfl) mi (by decide +kernel) (pa_cons (pv 2) (pa_cons (pe_bltn (v := .ty "str") (by rfl) mS (by decide +kernel) rfl) pa_nil))))) (pw_or1 (pt_cmpR (op_notIn_kd D.d) (pv 2) (pe_glob (v := .ref pl) (by rfl) gP rfl) (by rfl))))) (pss_one (ps_ret pe_bl)) pss_nil)
      (pss_cons (ps_set (i := 3) sc_is_deed.nd rfl (.inl rfl) (pe_slice sl_tup (pv 0) (po_some pe_int) po_none))
      (pss_one (ps_ret (pe_and (pe_cmpR op_eq (pe_callB call_len_seq (by rfl) mn PySem.boot_len (pa_cons (pv 3) pa_nil)) (pe_ix ix_kdict (pe_glob (v := .ref pl) (by rfl) gP rfl) (pv 2) (fun _ _ => rfl)) (nomark _))
        (pe_one (pe_callB (cr_all rfl) (by rfl) ma (by decide +kernel) (pa_cons
          (pe_lc (own := [("number", 4)]) (g := gName 4) (by rfl) sc_is_deed.nd (pi_tup (pv 3)) (blkOk_by (own := [("number", 4)]) (N := N_is_deed) (sc := defScope s_is_deed) (by decide +kernel))
            (fun _ _ _ _ _ => pg_name (i := 4) sc_is_deed.nd rfl (Or.inl rfl)) (fun _ _ _ _ _ => pts_nil)
            (fun _ _ _ _ _ => pe_call GN hr (by rfl) gN kN bN .nil pass0 (pa_cons (pv 4) (pa_cons (pv 1) pa_nil)))) pa_nil))))))))), ?_⟩
    have ln : ((pV p).length : Int) = p.2.length + 1 := by
      show (((_ :: List.map _ _).length : Nat) : Int) = _
      rw [List.length_cons, List.length_map]
      omega
    refine ⟨.ref r, rfl, .ref r, .ty "tuple", .type "tuple", .type "tuple", true, rfl, .ty "tuple", .base (.tup er), kit_ty (by decide +kernel), true, rfl, ?_⟩
    refine ⟨.ref r, rfl, r, _, rfl, .inr (SqT.of er), ⟨rfl, _, rfl, ite2 (fun e => ?_) (fun e => ?_)⟩⟩
    · have e2 := intEq e
      exfalso
      omega
    refine ⟨.ref r, rfl, r, _, 0, .str p.1, rfl, rfl, SqT.of er, atI_nat (j := 0) rfl, ?_⟩
    refine ⟨.str p.1, rfl, .str p.1, .ty "str", .type "str", .type "str", true, rfl, .ty "str", .base (.str p.1), kit_ty (by decide +kernel), true, rfl, ?_⟩
    by_cases hw : ∃ c, (p.1, c) ∈ fwL
    · obtain ⟨c, hc⟩ := hw
      rw [deedB_at hc] at q
      obtain ⟨t, ht⟩ := D.at_ _ hc
      refine ⟨.str p.1, rfl, p.1, _, rfl, rfl, ht, false, rfl, ?_⟩
      refine ⟨.ref r, rfl, 1, rfl, r, pV p, rfl, SqT.of er, notWhole _ _, fun T hT => ?_⟩
      rw [show cutV (pV p) (some 1) none = p.2.map oV from cutTail _ _]
      have sT := same_new (o := .tup (p.2.map oV)) hT
      refine ⟨.ref T, rfl, T, _, rfl, .inr (SqT.of upd_same), .str p.1, rfl, pl, p.1, .int c, rfl, rfl, ⟨es, n, _, D.d.at_, D.d.lit, ht, ⟨t, rfl⟩⟩, ⟨rfl, _, rfl, ite2 (fun he => ?_) (fun he => ?_)⟩⟩
      · have e3 := intEq he
        rw [List.length_map] at e3
        rw [decide_eq_true e3.symm, Bool.true_and] at q
        refine ⟨.ref T, rfl, T, rfl, ⟨_, SqT.of upd_same⟩, fun C hC => ?_⟩
        have sC : ∀ o, Same (upd H T (.tup (p.2.map oV))) (upd (upd H T (.tup (p.2.map oV))) C o) := fun o => same_new hC
        refine lc_tup (K := K) (a := T) (xs := p.2.map oV) (fun j H4 => H4 = upd (upd H T (.tup (p.2.map oV))) C (.lst (((p.2.take j).map (numB m)).map V.bl))) rfl (fun j H4 _ h4 => ?_) (fun j x H4 hx h4 => ?_) (fun H4 h4 => ?_)
        · rw [h4]
          exact SqT.of (sC _ _ _ upd_same)
        · subst h4
          have hj := (List.getElem?_eq_some_iff.mp hx).1
          rw [List.length_map] at hj
          rw [List.getElem?_map] at hx
          obtain ⟨z, hz, rfl⟩ := Option.map_eq_some_iff.mp hx
          refine ⟨rfl, oV z, rfl, .int m, rfl, z, m, rfl, _, upd_same, ?_, ?_⟩
          · rw [List.length_map, List.length_map, List.length_take, sizeLine_eq]
            omega
          · rw [upd_upd, List.take_add_one, hz]
            simp
        · have eC : H4 C = some (.lst ((p.2.map (numB m)).map V.bl)) := by rw [h4, upd_same, List.length_map, List.take_length]
          have s4 : Same (upd H T (.tup (p.2.map oV))) H4 := by rw [h4]; exact sC _
          refine ⟨C, _, rfl, .inl (.inl eC), ?_⟩
          have ea : (p.2.map (numB m)).all id = p.2.all (numB m) := by rw [List.all_map]; rfl
          rw [ea]
          exact q H4 (sT.trans s4)
      · have e3 := intNe he
        rw [List.length_map] at e3
        rw [decide_eq_false (fun z => e3 z.symm), Bool.false_and] at q
        exact q _ sT
    · have hno : ∀ q ∈ fwL, ¬ q.1 = p.1 := fun q' hq e => hw ⟨q'.2, by rw [← e]; exact hq⟩
      rw [deedB_no hno] at q
      refine ⟨.str p.1, rfl, p.1, _, rfl, rfl, ns_no D.d.at_ D.ks hno, true, rfl, ?_⟩
      exact q H (Same.refl H)
def spAd : Sp := fun vs H Q _ => ∃ (D : Addr) (rs : List Addr) (mid : List Pt) (m : Int), vs = [.ref D, .int m] ∧ H D = some (.tup (rs.map V.ref)) ∧ PtsAt H rs mid ∧ (∀ p ∈ mid, p.2.length ≤ 100000) ∧ ∀ H', Same H H' → Q (.bl (decide (mid.length ≤ 8) && (midB m mid).all id)) H'
theorem ok_ad {f fE : Addr} {t : Tok} {fd fdE : FuncData} {k : Nat} (F : Fun K "are_deeds" "are_deeds" s_are_deeds f fd) (GE : FnOk P w K mg base CX0 (k + 3) fE fdE ["thing", "ahead"] spDe) (kE : PySem.W.keepIn K (.ref fE) = true) (bE : Binds K fdE ["thing", "ahead"] []) (gE : mg "is_deed" = some (.ref fE))
    (gM : mg "MOST_DEEDS" = some (.int 8 t)) (mi : mg "isinstance" = none) (mt : mg "tuple" = none) (mn : mg "len" = none) (ma : mg "all" = none) (me : mg "enumerate" = none) : FnOk P w K mg base CX0 (k + 4) f fd ["thing", "many"] spAd := by
  refine F.ok sc_are_deeds (fun vs H Q E h => ?_) (fun cdv A outer s H vs Q E hr h => ?_)
  · obtain ⟨D, rs, ds, m, rfl, _⟩ := h
    rfl
  · obtain ⟨D, rs, mid, m, rfl, eD, hd, hls, q⟩ := h
    refine ⟨_, pss_cons (ps_if (PW.pt (pw_or (pt_not (pt_val (pe_callB call_isi (by rfl) mi (by decide +kernel) (pa_cons (pv 0) (pa_cons (pe_bltn (v := .ty "tuple") (by rfl) mt (by decide +kernel) rfl) pa_nil))))) (pw_or1 (pt_cmpR op_gt (pe_callB call_len_seq (by rfl) mn PySem.boot_len (pa_cons (pv 0) pa_nil)) (pe_glob (v := .int 8) (by rfl) gM ⟨t, rfl⟩) (nomark _))))) (pss_one (ps_ret pe_bl)) pss_nil)
      (pss_one (ps_ret (pe_callB (cr_all rfl) (by rfl) ma (by decide +kernel) (pa_cons
        (pe_lc (own := [("at", 2), ("deed", 3)]) (g := gTup K 2 (gCons (gName 2) (gCons (gName 3) gNil))) (by rfl) sc_are_deeds.nd (pi_enumT (by rfl) me (pa_cons (pv 0) pa_nil)) (blkOk_by (own := [("at", 2), ("deed", 3)]) (N := N_are_deeds) (sc := defScope s_are_deeds) (by decide +kernel))
          (fun _ _ _ _ _ => pg_tup rfl (pgs_cons (pg_name (i := 2) sc_are_deeds.nd rfl (.inl rfl)) (pgs_cons (pg_name (i := 3) sc_are_deeds.nd rfl (.inl rfl)) pgs_nil))) (fun _ _ _ _ _ => pts_nil)
          (fun _ _ _ _ _ => pe_call GE hr (by rfl) gE kE bE .nil pass0 (pa_cons (pv 3) (pa_cons (pe_op op_add (pv 1) (pv 2)) pa_nil)))) pa_nil)))), ?_⟩
    have lr := awLen hd
    refine ⟨.ref D, rfl, .ref D, .ty "tuple", .type "tuple", .type "tuple", true, rfl, .ty "tuple", .base (.tup eD), kit_ty (by decide +kernel), true, rfl, ?_⟩
    refine ⟨.ref D, rfl, D, _, rfl, .inr (SqT.of eD), _, 8, rfl, rfl, _, rfl, ite2 (fun e => ?_) (fun e => ?_)⟩
    · have e2 := of_decide_eq_true e
      rw [List.length_map, lr] at e2
      rw [decide_eq_false (by omega), Bool.false_and] at q
      exact q H (Same.refl H)
    have h8 : mid.length ≤ 8 := by
      by_cases h : mid.length ≤ 8
      · exact h
      · exact absurd (decide_eq_true (by rw [List.length_map, lr]; omega)) e
    rw [decide_eq_true h8, Bool.true_and] at q
    refine ⟨.ref D, rfl, D, _, rfl, SqT.of eD, fun C hC => ?_⟩
    refine lc_it (walk_enumT (K := K) (a := D) (xs := rs.map V.ref)) (fun j H4 => H4 C = some (.lst ((midB m (mid.take j)).map V.bl)) ∧ Same H H4) ⟨upd_same, same_new hC⟩ (fun j H4 _ h4 => SqT.of (h4.2 _ _ eD)) (fun j x H4 H5 hj h4 hx => ?_) (fun H4 h4 => ?_)
    · obtain ⟨eC, s4⟩ := h4
      obtain ⟨U, x1, x2, rfl, hU, rfl, g1, g2⟩ := hx
      have hj2 : j < rs.length := by rwa [List.length_map] at hj
      obtain rfl : x1 = .int (j : Nat) := (Option.some.inj g1).symm
      have e2 : x2 = .ref rs[j] := by
        have g2' : (rs.map V.ref)[j]? = some x2 := g2
        rw [List.getElem?_map, List.getElem?_eq_getElem hj2] at g2'
        exact (Option.some.inj g2').symm
      subst e2
      obtain ⟨p, hd1, hd2⟩ := awGet hd (List.getElem?_eq_getElem hj2)
      have sU := same_new (o := .tup [.int (j : Nat), .ref rs[j]]) hU
      refine ⟨U, [.int (j : Nat), .ref rs[j]], rfl, .inl (.inl upd_same), rfl, .int (j : Nat), [.ref rs[j]], rfl, .ref rs[j], [], rfl, rfl, rfl, .ref rs[j], rfl, .int m, rfl, .int (j : Nat), rfl, m, (j : Nat), rfl, rfl, rs[j], p, m + (j : Nat), rfl, sU _ _ (s4 _ _ hd2), hls p (List.mem_of_getElem? hd1), fun H6 s6 => ⟨_, s6 _ _ (sU _ _ eC), ?_, ?_, fun b u z => ?_⟩⟩
      · unfold midB
        rw [List.length_map, List.length_mapIdx, List.length_take]
        exact small1000 (by omega)
      · rw [upd_same, List.take_add_one, hd1]
        unfold midB
        rw [List.mapIdx_append, List.map_append, List.length_take, Nat.min_eq_left (by omega)]
        simp
      · rw [upd_ne (ne_of_none z hC)]
        exact s6 _ _ (sU _ _ (s4 b u z))
    · obtain ⟨eC, s4⟩ := h4
      rw [List.length_map, lr, List.take_length] at eC
      exact ⟨C, _, rfl, .inl (.inl eC), q H4 s4⟩
def spIr : Sp := fun vs H Q _ => ∃ (R D : Addr) (rs : List Addr) (m o : Option Int) (mid : List Pt), vs = [.ref R] ∧ H R = some (.tup [oV m, .ref D, oV o]) ∧ H D = some (.tup (rs.map V.ref)) ∧ PtsAt H rs mid ∧ (∀ p ∈ mid, p.2.length ≤ 100000) ∧ ∀ H', Same H H' → Q (.bl (rowB m mid o)) H'
theorem ok_ir {f fW fA fN : Addr} {t : Tok} {fd fdW fdA fdN : FuncData} {k : Nat} (F : Fun K "is_row" "is_row" s_is_row f fd) (GW : FnOk P w K mg base CX0 (k + 1) fW fdW ["thing"] spWh) (kW : PySem.W.keepIn K (.ref fW) = true) (bW : Binds K fdW ["thing"] []) (gW : mg "is_whole" = some (.ref fW))
    (GA : FnOk P w K mg base CX0 (k + 4) fA fdA ["thing", "many"] spAd) (kA : PySem.W.keepIn K (.ref fA) = true) (bA : Binds K fdA ["thing", "many"] []) (gA : mg "are_deeds" = some (.ref fA))
    (GN : FnOk P w K mg base CX0 (k + 2) fN fdN ["thing", "many"] spNb) (kN : PySem.W.keepIn K (.ref fN) = true) (bN : Binds K fdN ["thing", "many"] []) (gN : mg "is_number_below" = some (.ref fN))
    (gM : mg "MOST_INPUTS" = some (.int 3 t)) (mi : mg "isinstance" = none) (mt : mg "tuple" = none) (mn : mg "len" = none) : FnOk P w K mg base CX0 (k + 5) f fd ["thing"] spIr := by
  refine F.ok sc_is_row (fun vs H Q E h => ?_) (fun cdv A outer s H vs Q E hr h => ?_)
  · obtain ⟨R, D, rs, m, o, mid, rfl, _⟩ := h
    rfl
  · obtain ⟨R, D, rs, m, o, mid, rfl, eR, eD, hd, hls, q⟩ := h
    have r1 := hr.mono (show k + 1 ≤ k + 4 by omega)
    have r2 := hr.mono (show k + 2 ≤ k + 4 by omega)
    refine ⟨_, pss_cons (ps_if (PW.pt (pw_or (pt_not (pt_val (pe_callB call_isi (by rfl) mi (by decide +kernel) (pa_cons (pv 0) (pa_cons (pe_bltn (v := .ty "tuple") (by rfl) mt (by decide +kernel) rfl) pa_nil))))) (pw_or1 (pt_cmpR op_ne (pe_callB call_len_seq (by rfl) mn PySem.boot_len (pa_cons (pv 0) pa_nil)) pe_int (nomark _))))) (pss_one (ps_ret pe_bl)) pss_nil)
      (pss_cons (ps_asg (pv 0) (pg_tup rfl (pgs_cons (pg_name (i := 1) sc_is_row.nd rfl (.inl rfl)) (pgs_cons (pg_name (i := 2) sc_is_row.nd rfl (.inl rfl)) (pgs_cons (pg_name (i := 3) sc_is_row.nd rfl (.inl rfl)) pgs_nil)))))
      (pss_cons (ps_if (PW.pt (pw_or (pt_not (pt_val (pe_call GW r1 (by rfl) gW kW bW .nil pass0 (pa_cons (pv 1) pa_nil)))) (pw_or1 (pt_not (pt_chain op_le op_le pe_int (pv 1) (pe_glob (v := .int 3) (by rfl) gM ⟨t, rfl⟩)))))) (pss_one (ps_ret pe_bl)) pss_nil)
      (pss_one (ps_ret (pe_and (pe_call GA hr (by rfl) gA kA bA .nil pass0 (pa_cons (pv 2) (pa_cons (pv 1) pa_nil))) (pe_one (pe_call GN r2 (by rfl) gN kN bN .nil pass0 (pa_cons (pv 3) (pa_cons (pe_op op_add (pv 1) (pe_callB call_len_seq (by rfl) mn PySem.boot_len (pa_cons (pv 2) pa_nil))) pa_nil))))))))), ?_⟩
    have lr := awLen hd
    refine ⟨.ref R, rfl, .ref R, .ty "tuple", .type "tuple", .type "tuple", true, rfl, .ty "tuple", .base (.tup eR), kit_ty (by decide +kernel), true, rfl, ?_⟩
    refine ⟨.ref R, rfl, R, _, rfl, .inr (SqT.of eR), ⟨rfl, _, rfl, iteNS rfl ?_⟩⟩
    refine ⟨.ref R, rfl, R, _, rfl, SqT.of eR, rfl, _, _, rfl, _, _, rfl, _, _, rfl, rfl, ?_⟩
    cases m with
    | none =>
      refine ⟨.non, rfl, none, rfl, false, rfl, ?_⟩
      exact q H (Same.refl H)
    | some m =>
      have q' : ∀ H', Same H H' → Q (.bl (decide (1 ≤ m ∧ m ≤ 3) && (decide (mid.length ≤ 8) && ((midB m mid).all id && numB (m + mid.length) o)))) H' := q
      refine ⟨.int m, rfl, some m, rfl, true, rfl, ?_⟩
      have no13 : ¬ (1 ≤ m ∧ m ≤ 3) → ∀ H', Same H H' → Q (.bl false) H' := fun hn H' s' => by
        have := q' H' s'
        rw [decide_eq_false hn, Bool.false_and] at this
        exact this
      refine ⟨.int m, rfl, 1, m, rfl, rfl, _, rfl, ?_⟩
      by_cases h1 : 1 ≤ m
      · rw [decide_eq_true h1]
        refine ⟨m, 3, rfl, rfl, _, rfl, ?_⟩
        by_cases h3 : m ≤ 3
        · rw [decide_eq_true h3]
          refine ⟨.ref D, rfl, .int m, rfl, D, rs, mid, m, rfl, eD, hd, hls, fun H2 s2 => ⟨_, rfl, ?_⟩⟩
          have q2 := q' H2 s2
          rw [decide_eq_true ⟨h1, h3⟩, Bool.true_and, ← Bool.and_assoc] at q2
          refine ite2 (fun hb => ?_) (fun hb => ?_)
          · rw [hb, Bool.true_and] at q2
            refine ⟨oV o, rfl, .int m, rfl, .ref D, rfl, D, _, rfl, .inr (SqT.of (s2 _ _ eD)), m, _, rfl, rfl, o, m + (((rs.map V.ref).length : Nat) : Int), rfl, ?_⟩
            rw [List.length_map, lr]
            exact q2
          · have hb' : (decide (mid.length ≤ 8) && (midB m mid).all id) = false := by simpa using hb
            rw [hb', Bool.false_and] at q2
            exact q2
        · rw [decide_eq_false h3]
          exact no13 (fun z => h3 z.2) H (Same.refl H)
      · rw [decide_eq_false h1]
        exact ⟨false, rfl, no13 (fun z => h1 z.1) H (Same.refl H)⟩
/-! ### rows read -/
theorem spl_ne (S : List Nat) : ∀ (l : List Nat) (k : Nat) (acc : List Nat), TL.spl S k acc l ≠ []
  | [], k, acc => by
    rw [TL.spl_nil]
    simp
  | c :: r, 0, acc => by
    show (if TL.pre S (c :: r) = true then acc :: TL.spl S (S.length - 1) [] r else TL.spl S 0 (acc ++ [c]) r) ≠ []
    split
    · simp
    · exact spl_ne S r 0 _
  | c :: r, k + 1, acc => spl_ne S r k acc
theorem split_ne {t y : Str} (hy : TL.tl y ≠ []) (hk : y.cps.all (· < 256) = true) : Txt.split t y ≠ [] := by
  intro h
  have e := TL.split_spl t y hy (TL.kind_ok hk)
  rw [h] at e
  exact spl_ne _ _ _ _ e.symm
theorem mem_len {S p : List Nat} : ∀ {ps : List (List Nat)}, p ∈ ps → p.length ≤ (TL.joinL S ps).length
  | [q], h => by
    rw [List.mem_singleton.mp h]
    exact Nat.le_refl _
  | q :: q2 :: r, h => by
    show p.length ≤ (q ++ (S ++ TL.joinL S (q2 :: r))).length
    rw [List.length_append, List.length_append]
    rcases List.mem_cons.mp h with rfl | h
    · omega
    · have := mem_len (S := S) h
      omega
theorem split_part {t y p : Str} (h : p ∈ Txt.split t y) : p.length ≤ t.length := by
  have e := PySem.StrLaws.join_split t y
  have e2 : TL.tl t = TL.joinL (TL.tl y) ((Txt.split t y).map TL.tl) := by
    rw [← TL.tl_join, e]
  rw [TL.len_tl, TL.len_tl t, e2]
  exact mem_len (List.mem_map.mpr ⟨p, h, rfl⟩)
theorem fig_list : (Str.ofString "0123456789").cps.toList = [48, 49, 50, 51, 52, 53, 54, 55, 56, 57] := by decide +kernel
theorem fig_in (c : Nat) : decide (c ∈ (Str.ofString "0123456789").cps.toList) = figB c := by
  rw [fig_list]
  unfold figB
  by_cases h : 48 ≤ c ∧ c ≤ 57
  · rw [decide_eq_true h]
    apply decide_eq_true
    have : c = 48 ∨ c = 49 ∨ c = 50 ∨ c = 51 ∨ c = 52 ∨ c = 53 ∨ c = 54 ∨ c = 55 ∨ c = 56 ∨ c = 57 := by omega
    simpa using this
  · rw [decide_eq_false h]
    apply decide_eq_false
    intro hm
    simp only [List.mem_cons, List.not_mem_nil, or_false] at hm
    omega
theorem zero_tl : TL.tl (Str.ofString "0") = [48] := by decide +kernel
def spRn : Sp := fun vs H Q _ => ∃ w : Str, vs = [.str w] ∧ w.length ≤ 100000 ∧ ∀ H', Same H H' → Q (oV (numO w)) H'
theorem ok_rn {f : Addr} {t1 t2 : Tok} {fd : FuncData} {k : Nat} (F : Fun K "read_number" "read_number" s_read_number f fd) (gF : mg "FIGURES" = some (.str "0123456789" t1)) (gM : mg "MOST_FIGURES" = some (.int 19 t2)) (mn : mg "len" = none) (ma : mg "all" = none) (mI : mg "int" = none) :
    FnOk P w K mg base CX0 (k + 1) f fd ["word"] spRn := by
  refine F.ok sc_read_number (fun vs H Q E h => ?_) (fun cdv A outer s H vs Q E hr h => ?_)
  · obtain ⟨w', rfl, _⟩ := h
    rfl
  · obtain ⟨z, rfl, hz, q⟩ := h
    refine ⟨_, pss_cons (ps_if (PW.pt (pw_or (pt_not (pt_chain op_le op_le pe_int (pe_callB call_len_str (by rfl) mn PySem.boot_len (pa_cons (pv 0) pa_nil)) (pe_glob (v := .int 19) (by rfl) gM ⟨t2, rfl⟩)))
        (pw_or1 (pt_not (pt_val (pe_callB (cr_all rfl) (by rfl) ma (by decide +kernel) (pa_cons
          (pe_lc (own := [("sign", 1)]) (g := gName 1) (by rfl) sc_read_number.nd (pi_str (pv 0)) (blkOk_by (own := [("sign", 1)]) (N := N_read_number) (sc := defScope s_read_number) (by decide +kernel))
            (fun _ _ _ _ _ => pg_name (i := 1) sc_read_number.nd rfl (Or.inl rfl)) (fun _ _ _ _ _ => pts_nil)
            (fun _ _ _ _ _ => pe_cmpR op_in_sign (pv 1) (pe_glob (v := .str "0123456789") (by rfl) gF ⟨t1, rfl⟩) (by rfl))) pa_nil))))))) (pss_one (ps_ret pe_non)) pss_nil)
      (pss_cons (ps_if (PW.pt (pw_and (pt_cmpR op_eq (pe_item_str (pv 0) pe_int (fun _ _ => rfl)) pe_str (nomark _)) (pw_and1 (pt_cmpR op_ne (pv 0) pe_str (nomark _))))) (pss_one (ps_ret pe_non)) pss_nil)
      (pss_one (ps_ret (pe_callTy call_int_str (by rfl) mI (by decide +kernel) (pa_cons (pv 0) pa_nil))))), ?_⟩
    have lz := TL.len_tl z
    have hzs : z.length ≤ sizeLine := by rw [sizeLine_eq]; omega
    have bad : numOk (TL.tl z) = false → ∀ H', Same H H' → Q .non H' := fun hb H' s' => by
      have := q H' s'
      unfold numO at this
      rw [if_neg (by rw [hb]; exact Bool.false_ne_true)] at this
      exact this
    have nlen : ¬ (1 ≤ (TL.tl z).length ∧ (TL.tl z).length ≤ 19) → numOk (TL.tl z) = false := fun hn => by
      unfold numOk
      rw [decide_eq_false hn, Bool.false_and, Bool.false_and]
    refine ⟨.str z, rfl, z, rfl, hzs, 1, _, rfl, rfl, _, rfl, ?_⟩
    by_cases h1 : (1 : Int) ≤ (z.length : Int)
    · rw [decide_eq_true h1]
      refine ⟨_, 19, rfl, rfl, _, rfl, ?_⟩
      by_cases h19 : (z.length : Int) ≤ 19
      · rw [decide_eq_true h19]
        have hl : 1 ≤ (TL.tl z).length ∧ (TL.tl z).length ≤ 19 := by omega
        refine ⟨.str z, rfl, z, rfl, fun C hC => ?_⟩
        have sC : ∀ o, Same H (upd H C o) := fun o => same_new hC
        refine lc_it (walk_str (z := z)) (fun j H4 => H4 = upd H C (.lst ((((TL.tl z).take j).map figB).map V.bl))) rfl (fun _ _ _ _ => trivial) (fun j x H4 H5 hj h4 hx => ?_) (fun H4 h4 => ?_)
        · obtain ⟨rfl, c, hc, rfl⟩ := hx
          subst h4
          have hc' : (TL.tl z)[j]? = some c := by
            show z.cps.toList[j]? = some c
            rw [Array.getElem?_toList]
            exact hc
          refine ⟨rfl, .str ⟨#[c]⟩, rfl, c, _, rfl, rfl, _, upd_same, ?_, ?_⟩
          · rw [List.length_map, List.length_map, List.length_take]
            exact small1000 (by omega)
          · rw [upd_upd, List.take_add_one, hc', fig_in]
            simp
        · have esz : z.cps.size = (TL.tl z).length := by rw [← lz]; rfl
          have eC : H4 C = some (.lst (((TL.tl z).map figB).map V.bl)) := by rw [h4, upd_same, esz, List.take_length]
          have s4 : Same H H4 := by rw [h4]; exact sC _
          have ea : ((TL.tl z).map figB).all id = (TL.tl z).all figB := by rw [List.all_map]; rfl
          refine ⟨C, _, rfl, .inl (.inl eC), _, rfl, ?_⟩
          rw [ea]
          by_cases hall : (TL.tl z).all figB = true
          · rw [hall]
            have h63 : (0 : Int) < 2 ^ 63 := by decide
            obtain ⟨c, r, ecr⟩ : ∃ c r, TL.tl z = c :: r := by
              cases e : TL.tl z with
              | nil => rw [e] at hl; simp at hl
              | cons c r => exact ⟨c, r, rfl⟩
            have hc0 : z.cps[(0 : Int).toNat]? = some c := by
              have : z.cps.toList[0]? = some c := by
                show (TL.tl z)[0]? = some c
                rw [ecr]
                rfl
              rw [Array.getElem?_toList] at this
              exact this
            refine ⟨.str z, rfl, z, 0, c, rfl, rfl, by decide, h63, by omega, hc0, ⟨rfl, _, rfl, ?_⟩⟩
            have good : (c = 48 → TL.tl z = [48]) → ∃ v, (Sum.inl () : Unit ⊕ Unit) = Sum.inl () ∧ numO z = some v ∧ PySem.intText? z = some v := fun hh => by
              have hok : numOk (TL.tl z) = true := by
                unfold numOk
                rw [decide_eq_true hl, hall, Bool.true_and, Bool.true_and]
                by_cases e48 : c = 48
                · rw [decide_eq_true (hh e48), Bool.not_true, Bool.and_false]
                  rfl
                · rw [ecr, decide_eq_false (show ¬ (c :: r).head? = some 48 from fun z => e48 (Option.some.inj z)), Bool.false_and]
                  rfl
              obtain ⟨g1, g2, g3, g4⟩ := numOk_parts hok
              refine ⟨_, rfl, by unfold numO; rw [if_pos hok], ?_⟩
              exact PySem.intText_digits g3 (fun z' => by have : TL.tl z = [] := z'; rw [this] at hl; simp at hl) (by omega)
            have ec : decide (V.str ⟨#[c]⟩ = V.str (Str.ofString "0")) = decide (c = 48) := by
              by_cases e48 : c = 48
              · subst e48
                rw [decide_eq_true rfl]
                exact decide_eq_true (by decide +kernel)
              · rw [decide_eq_false e48]
                apply decide_eq_false
                intro e
                have e2 := congrArg TL.tl (V.str.inj e)
                rw [zero_tl] at e2
                have e3 : ([c] : List Nat) = [48] := e2
                exact e48 (List.cons.inj e3).1
            rw [ec]
            by_cases e48 : c = 48
            · rw [decide_eq_true e48]
              refine ⟨.str z, rfl, ⟨rfl, _, rfl, ite2 (fun hne => ?_) (fun heq => ?_)⟩⟩
              · have hne2 : ¬ TL.tl z = [48] := fun e => by
                  have : z = Str.ofString "0" := TL.ext_tl (by rw [zero_tl]; exact e)
                  rw [this, decide_eq_true rfl] at hne
                  cases hne
                refine bad ?_ H4 s4
                unfold numOk
                rw [decide_eq_false hne2, ecr, e48, decide_eq_true (show (48 :: r).head? = some 48 from rfl)]
                simp
              · have he : TL.tl z = [48] := by
                  by_cases e : z = Str.ofString "0"
                  · rw [e, zero_tl]
                  · exact absurd (by rw [decide_eq_false (fun y => e (V.str.inj y))]; rfl) heq
                obtain ⟨v, _, hv, hi⟩ := good fun _ => he
                have := q H4 s4
                rw [hv] at this
                exact ⟨.str z, rfl, z, v, rfl, hi, by omega, this⟩
            · rw [decide_eq_false e48]
              obtain ⟨v, _, hv, hi⟩ := good fun e => absurd e e48
              have := q H4 s4
              rw [hv] at this
              exact ⟨.str z, rfl, z, v, rfl, hi, by omega, this⟩
          · have hall' : (TL.tl z).all figB = false := by simpa using hall
            rw [hall']
            refine bad ?_ H4 s4
            unfold numOk
            rw [hall', Bool.and_false, Bool.false_and]
      · rw [decide_eq_false h19]
        exact bad (nlen (by omega)) H (Same.refl H)
    · rw [decide_eq_false h1]
      exact ⟨false, rfl, bad (nlen (by omega)) H (Same.refl H)⟩
def spRp : Sp := fun vs H Q _ => ∃ t : Str, vs = [.str t] ∧ t.length ≤ 100000 ∧ ∀ H' r, Same H H' → H' r = some (.tup (pV (partO t))) → Q (.ref r) H'
theorem ok_rp {f fN : Addr} {fd fdN : FuncData} {k : Nat} (F : Fun K "read_part" "read_part" s_read_part f fd) (GN : FnOk P w K mg base CX0 (k + 1) fN fdN ["word"] spRn) (kN : PySem.W.keepIn K (.ref fN) = true) (bN : Binds K fdN ["word"] []) (gN : mg "read_number" = some (.ref fN)) (mt : mg "tuple" = none) :
    FnOk P w K mg base CX0 (k + 2) f fd ["text"] spRp := by
  refine F.ok sc_read_part (fun vs H Q E h => ?_) (fun cdv A outer s H vs Q E hr h => ?_)
  · obtain ⟨w', rfl, _⟩ := h
    rfl
  · obtain ⟨t, rfl, ht, q⟩ := h
    refine ⟨_, pss_cons (ps_set (i := 1) sc_read_part.nd rfl (.inl rfl) (pe_split (pv 0) pe_str))
      (pss_one (ps_ret (pe_op op_catZ (pe_tup (pa_cons (pe_ix ix_list (pv 1) pe_int (fun _ _ => rfl)) pa_nil)) (pe_callTy call_tuple_of (by rfl) mt (by decide +kernel) (pa_cons
        (pe_lc (own := [("word", 2)]) (g := gName 2) (by rfl) sc_read_part.nd (pi_list (pe_slice sl_list (pv 1) (po_some pe_int) po_none)) (blkOk_by (own := [("word", 2)]) (N := N_read_part) (sc := defScope s_read_part) (by decide +kernel))
          (fun _ _ _ _ _ => pg_name (i := 2) sc_read_part.nd rfl (Or.inl rfl)) (fun _ _ _ _ _ => pts_nil)
          (fun _ _ _ _ _ => pe_call GN hr (by rfl) gN kN bN .nil pass0 (pa_cons (pv 2) pa_nil))) pa_nil))))), ?_⟩
    have hne : Txt.split t " " ≠ [] := split_ne (by decide +kernel) (by decide +kernel)
    have hle := PyProof.Rows.split_le t " "
    have hpt : ∀ p ∈ Txt.split t " ", p.length ≤ 100000 := fun p hp => Nat.le_trans (split_part hp) ht
    obtain ⟨wd, ws, ews⟩ : ∃ wd ws, Txt.split t " " = wd :: ws := by
      cases e : Txt.split t " " with
      | nil => exact absurd e hne
      | cons x xs => exact ⟨x, xs, rfl⟩
    have eP : partO t = (wd, ws.map numO) := by unfold partO; rw [ews]
    rw [ews] at hle hpt
    refine ⟨.str t, rfl, ⟨_, rfl⟩, t, " ", rfl, rfl, by decide +kernel, by rw [sizeLine_eq]; omega, fun L hL => ?_⟩
    rw [ews]
    have sL := same_new (o := .lst ((wd :: ws).map V.str)) hL
    refine ⟨.ref L, rfl, L, _, 0, .str wd, rfl, rfl, .inl (.inl upd_same), atI_nat (j := 0) rfl, (by show 1 ≤ sizeLine; decide), fun U hU => ?_⟩
    have sU := same_new (o := .tup [.str wd]) hU
    refine ⟨.ref L, rfl, 1, rfl, L, _, rfl, .inl (.inl (sU _ _ upd_same)), fun T hT => ?_⟩
    rw [show cutV ((wd :: ws).map V.str) (some 1) none = ws.map V.str from cutTail _ _]
    have sT := same_new (o := .lst (ws.map V.str)) hT
    obtain ⟨H3, hH3⟩ : ∃ H3, H3 = upd (upd (upd H L (.lst ((wd :: ws).map V.str))) U (.tup [.str wd])) T (.lst (ws.map V.str)) := ⟨_, rfl⟩
    have eT : H3 T = some (.lst (ws.map V.str)) := by rw [hH3]; exact upd_same
    have eU : H3 U = some (.tup [.str wd]) := by rw [hH3]; exact sT _ _ upd_same
    have s3 : Same H H3 := by rw [hH3]; exact sL.trans (sU.trans sT)
    rw [← hH3]
    refine ⟨T, rfl, ⟨_, .inl (.inl eT)⟩, fun C hC => ?_⟩
    refine lc_list (K := K) (a := T) (xs := ws.map V.str) (fun j H4 => H4 C = some (.lst (((ws.take j).map numO).map oV)) ∧ Same H3 H4) ⟨upd_same, same_new hC⟩ (fun j H4 _ h4 => .inl (.inl (h4.2 _ _ eT))) (fun j x H4 hx h4 => ?_) (fun H4 h4 => ?_)
    · obtain ⟨eC, s4⟩ := h4
      have hj := (List.getElem?_eq_some_iff.mp hx).1
      rw [List.length_map] at hj
      rw [List.getElem?_map] at hx
      obtain ⟨z, hz, rfl⟩ := Option.map_eq_some_iff.mp hx
      refine ⟨rfl, .str z, rfl, z, rfl, hpt z (List.mem_cons_of_mem _ (List.mem_of_getElem? hz)), fun H5 s5 => ⟨_, s5 _ _ eC, ?_, ?_, ?_⟩⟩
      · rw [List.length_map, List.length_map, List.length_take, sizeLine_eq]
        rw [List.length_cons] at hle
        omega
      · rw [upd_same, List.take_add_one, hz]
        simp
      · intro b u e
        rw [upd_ne (ne_of_none e hC)]
        exact s5 _ _ (s4 _ _ e)
    · obtain ⟨eC, s4⟩ := h4
      rw [List.length_map, List.take_length] at eC
      refine ⟨C, _, rfl, .inl ⟨.inl (.inl eC), fun Z hZ => ?_⟩⟩
      have sZ := same_new (o := .tup ((ws.map numO).map oV)) hZ
      refine ⟨U, Z, _, _, rfl, rfl, sZ _ _ (s4 _ _ eU), upd_same, ?_, fun p H5 s5 e5 => ?_⟩
      · rw [List.length_map, List.length_map, sizeLine_eq]
        rw [List.length_cons] at hle
        show 1 + ws.length ≤ _
        omega
      · refine q H5 p (s3.trans (s4.trans (sZ.trans s5))) ?_
        rw [eP]
        exact e5
/-! ### an exception that was caught, held beyond the clause -/
section excs
/-- an exception object of the class cls at a, raised or not -/
def ExR (cls : Value) (a : Addr) : HO := .ext fun h => ∃ (oe : Obj) (vs : Array Value), h.get? a = some oe ∧ Zc cls none oe ∧ oe.data = .fields vs
theorem exR_ok {P : Program} {w : World} {H : Hp} {h : Heap} {a : Addr} {cls : Value} {oe : Obj} {vs : Array Value} (e : h.get? a = some oe) (z : Zc cls none oe) (d : oe.data = .fields vs) : ObjOk P w H h a (ExR cls a) :=
  ⟨⟨oe, vs, e, z, d⟩, ⟨oe, e⟩, fun _ _ ⟨o, v, q, r⟩ k => ⟨o, v, k o q, r⟩⟩
theorem inv_track {X : Cx} {pins : List (Addr × Obj)} {σ : L2.St} {H : Hp} {s : Shared} {a : Addr} {cls : Value} {oe : Obj} {vs : Array Value} (I : Inv X pins σ H s) (na : H a = none) (ha : s.heap.get? a = some oe) (hz : Zc cls none oe) (hd : oe.data = .fields vs)
    (nL : a ≠ X.env.locals) (n0 : ∀ o, X.s_0.heap.get? a = some o → a ∈ X.ex) (np : ∀ p ∈ X.pn ++ pins, p.1 ≠ a) : Inv X pins σ (upd H a (ExR cls a)) s := by
  refine ⟨I.ok, I.os, I.bare, ⟨I.base.keep, I.base.slot, fun b o e n hx => ?_, I.base.there, fun b xs e => ?_, fun b o u e => ?_, fun b ps e => ?_⟩, I.loc, I.cell, ?_, fun x c e => ?_, fun p hp => ?_, fun b u e => ?_, I.len⟩
  · have nb : b ≠ a := fun z => by
      subst z
      exact hx (n0 o e)
    rw [upd_ne nb]
    exact I.base.free b o e n hx
  · have z := I.base.tups b xs e
    rw [upd_ne (ne_of_none z na)]
    exact z
  · have z := I.base.frzs b o u e
    rw [upd_ne (ne_of_none z na)]
    exact z
  · obtain ⟨more, z⟩ := I.base.tbls b ps e
    exact ⟨more, by rw [upd_ne (ne_of_none z na)]; exact z⟩
  · rw [upd_ne nL.symm]
    exact I.free
  · have nc : c ≠ a := fun z => by
      subst z
      obtain ⟨v, o, h1, h2⟩ := I.cell x c e
      rw [ha] at h1
      cases h1
      rw [hd] at h2
      cases h2
    rw [upd_ne nc]
    exact I.freeC x c e
  · obtain ⟨h1, h2, h3⟩ := I.pin p hp
    exact ⟨h1, by rw [upd_ne (np p hp)]; exact h2, h3⟩
  · by_cases hb : b = a
    · subst hb
      rw [upd_same] at e
      cases e
      exact exR_ok ha hz hd
    · rw [upd_ne hb] at e
      exact (I.hok b u e).stay (fun c v _ q => q) (fun c q => by rw [upd_ne (ne_of_none q na)]; exact q) fun c xs q => by rw [upd_ne (ne_of_none q na)]; exact q
def wAsT (K : PySem.W.Frag) (c : Value) (i : Nat) (ts : Addr → Value → Option Addr → TS) (Wout : WX) (D : Ends) : WX := fun cls d σ H =>
  ∃ b, PySem.W.exmOne K cls c = some b ∧ (b = true → d = none ∧ ∀ a, H a = none → ts a cls d { nx := fun σ' H' => D.nx (σ'.set i none) (upd H' a (ExR cls a)), rt := D.rt, bk := fun σ' H' => D.bk (σ'.set i none) H', ct := fun σ' H' => D.ct (σ'.set i none) H' } (σ.set i (some (.ref a))) H) ∧
    (b = false → Wout cls d σ H)
theorem ps_try_asT {X : Cx} {x n : Str} {c : Value} {i : Nat} {body suite : List Stmt} {b₀ : Stmt} {np pos pos' : Pos} {tb : WX → TS} {ts : Addr → Value → Option Addr → TS} {Wout : WX} (hs : X.stack = X.env :: X.outer) (hf : X.env.frame = some X.env.locals) (hN : X.N.Nodup) (hi : X.N[i]? = some n) (hln : X.env.kindOf n = some .local) (hc : Names X x c) (tk : Takes X Wout)
    (hb : ∀ (W : WX) (pn : List (Addr × Obj)) (xe : Value → Shared → Prop), Takes (X.tr pn xe) W → PassesOwn (model X.prog X.w) X.A X.env xe → PSs (X.tr pn xe) body (tb W))
    (hsu : ∀ (a : Addr) (oe : Obj) (cls : Value) (d : Option Addr) (pn : List (Addr × Obj)), Zc cls d oe → (∃ vs, oe.data = .fields vs) → PSs (X.suite a ((a, oe) :: pn)) (b₀ :: suite) (ts a cls d)) :
    PS X (.Try body [.ExceptHandler (some (.Name x np)) (some n) (b₀ :: suite) pos'] [] [] pos) (fun D σ H => tb (wAsT X.K c i ts Wout D) D σ H) := by
  refine ⟨fun pins s σ H D I h => ?_⟩
  have ok := I.ok
  have hfr : X.A.frames = some (X.env :: X.outer) := by rw [ok.frames, hs]
  have hloc : Loc X.env.scope n := .inl hln
  refine wpAny_Try_except ?_
  refine wpAny_mono ((hb (wAsT X.K c i ts Wout D) (X.pn ++ pins) (fun e s₁ => wpAny (model X.prog X.w) X.A (noteFrame e X.env) (fun _ s₂ => wpAny (model X.prog X.w) X.A (setFlight e none) (fun _ s₃ =>
    wpAny (model X.prog X.w) X.A (handleBy e X.env [.ExceptHandler (some (.Name x np)) (some n) (b₀ :: suite) pos']) (SP X pins D) X.xe s₃) X.xe s₂) X.xe s₁) (fun u s' xx => ?_) PassesOwn.looking).run [] s σ H D (I.toTry _) h) (fun f s1 hsp => ?_) (fun e s1 he => he)
  · obtain ⟨a, B, sI, pins', σ', H', cls, d, rfl, J', nb, up, sky, na, os, ag, b, hb1, hyes, hno⟩ := xx
    have J : Inv X pins σ' H' sI := J'.ofTry ok
    have sky' : Sky B (X.env :: X.outer) a (Zc cls d) X.env.locals s'.heap := by rw [← hs]; exact sky
    show wpAny (model X.prog X.w) X.A (noteFrame (.ref a) X.env) _ _ _
    refine Sky.land Zc.steady hfr hf sky' fun h3 fl3 up3 => ?_
    have J3 : Inv X pins σ' H' { s' with heap := h3 } := J.landed nb fl3.1 (up.trans up3) os ag
    obtain ⟨oe3, vs3, he3, hz3, hd3⟩ := fl3.there
    have notFr : ∀ {h : Heap} {o : Obj} {vs : Array Value}, h.FunFrames B (X.env :: X.outer) → h.get? a = some o → o.data = .fields vs → a ∉ frs (X.env :: X.outer) := fun {h o vs} ff e dd hm => by
      obtain ⟨_, o', e', hnf⟩ := ff.mem hm
      rw [e] at e'; cases e'
      exact hnf _ dd
    have nfr := notFr fl3.2.2.1 he3 hd3
    have nL : a ≠ X.env.locals := fun z => nfr (List.mem_filterMap.mpr ⟨X.env, List.mem_cons_self, by rw [hf, z]⟩)
    have nF : a ∉ X.fs := fun hm => by
      obtain ⟨e, he, q⟩ := List.mem_filterMap.mp hm
      exact nfr (List.mem_filterMap.mpr ⟨e, List.mem_cons_of_mem _ he, q⟩)
    have nI : ∀ o, sI.heap.get? a = some o → False := fun o e => by
      have z := nb a o e (by rw [hs]; exact nfr)
      have z2 : B.get? a = none := fl3.2.1
      rw [z2] at z
      cases z
    have n0 : ∀ o, X.s_0.heap.get? a = some o → a ∈ X.ex := fun o e => by
      by_cases hx : a ∈ X.ex
      · exact hx
      · obtain ⟨o', e'⟩ := J.base.there a o e hx
        exact (nI o' e').elim
    have np' : ∀ p ∈ X.pn ++ pins, p.1 ≠ a := fun p hp z => by
      have := (J.pin p hp).1
      rw [z] at this
      exact nI _ this
    have S3 := J3.suite he3 hd3 na nL nF
    refine wpAny_handleBy_cons (codeAny_handlers_test ?_) (by intro q; cases q)
    have LT : PySem.W.Looks (model X.prog X.w) h3 (typeOf (.ref a)) cls := fun A Q E s k q => wpAny_typeOf_ref (k _ _ he3) (by rw [hz3.1]; exact q)
    have LM := PySem.W.exm_one (M := model X.prog X.w) (J3.kIn) LT hb1
    have test : ∀ {Q : Value → Shared → Prop} {E : Value → Shared → Prop}, Q c { s' with heap := h3 } → wpAny (model X.prog X.w) (X.A.mark (some (.ref a))) (eval (.Name x np) X.env) Q E { s' with heap := h3 } := fun {Q E} q => by
      obtain ⟨hg, hdbg, hm | ⟨hm, hv, hnn⟩⟩ := hc
      · exact ld_glob (X := X.suite a ((a, oe3) :: (X.pn ++ pins))) S3 hg hm q hdbg
      · exact ld_blt (X := X.suite a ((a, oe3) :: (X.pn ++ pins))) S3 hg hm hv q hnn hdbg
    refine test (LM.here ?_)
    cases b with
    | true =>
      obtain ⟨dn, hyes⟩ := hyes rfl
      refine codeAny_handlers_suite_as ?_
      refine HandSPX.lands_againZ fl3 fun h4 fl4 up4 => ?_
      have J4 : Inv X pins σ' H' { s' with heap := h4 } := J.landed nb fl4.1 ((up.trans up3).trans up4) os ag
      obtain ⟨oe4, vs4, he4, hz4, hd4⟩ := fl4.there
      have S4 := J4.suite he4 hd4 na nL nF
      refine store_ok (X := X.suite a ((a, oe4) :: (X.pn ++ pins))) (v := .ref a) S4 hN hi hloc rfl (fun s5 S5 => ?_) (.inr hln)
      refine wpAny_mono ((hsu a oe4 cls d (X.pn ++ pins) hz4 ⟨_, hd4⟩).run [] s5 _ H' _ S5 (hyes a na)) (fun f s6 hsp => ?_) (fun _ _ z => False.elim z)
      have end_ : ∀ {σ6 : L2.St} {H6 : Hp} {Q : Shared → Prop}, Inv (X.suite a ((a, oe4) :: (X.pn ++ pins))) [] σ6 H6 s6 → (∀ s7, Inv X pins (σ6.set i none) H6 s7 → Q s7) →
          wpAny (model X.prog X.w) X.A (do bindName X.env n .none; unbindBehindTheSuite X.env n pos') (fun _ s7 => Q s7) X.xe s6 := fun {σ6 H6 Q} S6 hq => gone_ok (S6.unsuite ok) hN hi hln hq
      cases f with
      | next =>
        obtain ⟨σ6, H6, S6, q6⟩ := hsp
        obtain ⟨p1, p2, _⟩ := S6.pin (a, oe4) (List.mem_append_left _ List.mem_cons_self)
        have T6 : Inv X pins σ6 (upd H6 a (ExR cls a)) s6 := inv_track (S6.unsuite ok) p2 p1 (by rw [dn] at hz4; exact hz4) hd4 nL n0 np'
        exact gone_ok T6 hN hi hln fun s7 J7 => ⟨_, _, J7, q6⟩
      | brk =>
        obtain ⟨σ6, H6, S6, q6⟩ := hsp
        exact end_ S6 fun s7 J7 => ⟨_, _, J7, q6⟩
      | cont =>
        obtain ⟨σ6, H6, S6, q6⟩ := hsp
        exact end_ S6 fun s7 J7 => ⟨_, _, J7, q6⟩
      | ret u =>
        obtain ⟨v6, σ6, H6, S6, r6, q6⟩ := hsp
        exact end_ S6 fun s7 J7 => ⟨_, _, _, J7, r6, q6⟩
    | false =>
      show wpAny _ X.A (handleBy (.ref a) X.env []) _ _ _
      refine wpAny_handleBy_nil ?_
      obtain ⟨k1, k2, k3, oe, vs, T, oT, ts', he, hz, hd, h1, hr⟩ := id fl3
      unfold PySem.passOn
      refine wpAny_bind (wpAny_field he hd h1 ?_)
      rw [if_neg (show ¬ ((Value.ref T == Value.none) = true) from by simp)]
      have fin : wpAny (model X.prog X.w) X.A (setFlight (.ref a) X.env.frame) (fun _ s4 => wpAny (model X.prog X.w) X.A (throw (.ref a) : Sem Flow) (SP X pins D) X.xe s4) X.xe { s' with heap := h3 } := by
        rw [hf]
        refine HandSPX.setFlight_upZ fl3 fun h4 hh4 up4 => wpAny_throw (tk _ _ ?_)
        exact ⟨a, B, sI, pins, σ', H', cls, d, rfl, J, nb, (up.trans up3).trans up4, .inr (.inr (by rw [hs]; exact hh4)), na, os, ag, hno rfl⟩
      first
        | exact wpAny_bind (wpAny_pure (wpAny_bind fin))
        | exact wpAny_bind fin
  · cases f with
    | next =>
      obtain ⟨σ', H', J', q⟩ := hsp
      exact wpAny_execs_nil ⟨σ', H', J'.ofTry ok, q⟩
    | brk =>
      obtain ⟨σ', H', J', q⟩ := hsp
      exact ⟨σ', H', J'.ofTry ok, q⟩
    | cont =>
      obtain ⟨σ', H', J', q⟩ := hsp
      exact ⟨σ', H', J'.ofTry ok, q⟩
    | ret u =>
      obtain ⟨v, σ', H', J', r, q⟩ := hsp
      exact ⟨v, σ', H', J'.ofTry ok, r, q⟩
/-- isinstance of a caught exception -/
def rIsR (K : PySem.W.Frag) : List V → Hp → VK → Prop := fun xs H Q => ∃ (a D : Addr) (c : V) (cv : Value) (b : Bool), xs = [.ref a, c] ∧ H a = some (ExR (.ref D) a) ∧ ExcC K D ∧ ClsV c cv ∧ PySem.W.kitOne K (.ref D) cv = some b ∧ Q (.bl b) H
theorem inst_at {X : Cx} {pins : List (Addr × Obj)} {σ : L2.St} {H : Hp} {s : Shared} {a D : Addr} (I : Inv X pins σ H s) (ha : H a = some (ExR (.ref D) a)) : ∃ oe, PySem.W.InstAt s.heap a oe D none := by
  obtain ⟨⟨oe, vs, hget, ⟨z1, z2⟩, hv⟩, _, _⟩ := I.hok a _ ha
  refine ⟨oe, ?_⟩
  obtain ⟨oc, od, oda, osl⟩ := oe
  dsimp only at z1 z2 hv
  subst z1 z2 hv
  exact ⟨hget, rfl, rfl, trivial⟩
theorem call_isR {X : Cx} : CallR X (.builtin "isinstance") (rIsR X.K) := by
  intro pins s σ H xs us Q I r h
  obtain ⟨a, D, c, cv, b, rfl, ha, hD, hc, hk, q⟩ := h
  obtain ⟨oe, J⟩ := inst_at I ha
  obtain ⟨u1, u2, rfl, r1, r2⟩ := vals2 r
  cases (show u1 = Value.ref a from r1)
  obtain rfl := ClsV.eq hc r2
  exact PySem.W.kia_one (PySem.W.handS_kitx_exc hD.hg hD.hk hD.hs hD.hd hD.ha hD.hn hD.ht hD.hm) I.kIn J hk (fun z => nomatch z) fun tk => ⟨.bl b, H, I.kept (t' := tk) fun _ _ z => z, rfl, q⟩
def rIsRT (K : PySem.W.Frag) : List V → Hp → VK → Prop := fun xs H Q => ∃ (a D tp : Addr) (cs : List V) (ws : List Value) (b : Bool), xs = [.ref a, .ref tp] ∧ H a = some (ExR (.ref D) a) ∧ ExcC K D ∧ H tp = some (.tup cs) ∧ Paired ClsV cs ws ∧ PySem.W.kitAny K (.ref D) ws = some b ∧ Q (.bl b) H
theorem call_isRT {X : Cx} : CallR X (.builtin "isinstance") (rIsRT X.K) := by
  intro pins s σ H xs us Q I r h
  obtain ⟨a, D, tp, cs, ws, b, rfl, ha, hD, hT, k, e, q⟩ := h
  obtain ⟨oe, J⟩ := inst_at I ha
  obtain ⟨u1, u2, rfl, r1, r2⟩ := vals2 r
  cases (show u1 = Value.ref a from r1)
  cases (show u2 = Value.ref tp from r2)
  obtain ⟨_, its, rv, o, h1, h2, n, h3⟩ := (show ObjOk X.prog X.w H s.heap tp (.tup cs) from I.hok tp _ hT)
  have e3 := ClsV.all k rv
  subst e3
  obtain ⟨oc, od, dt, sl⟩ := o
  simp only at h2 h3
  subst h2 h3
  exact PySem.W.kia_tup (PySem.W.handS_kitx_exc hD.hg hD.hk hD.hs hD.hd hD.ha hD.hn hD.ht hD.hm) I.kIn J h1 e (fun z => nomatch z) fun tk => ⟨.bl b, H, I.tok tk, rfl, q⟩
end excs
/-! ### refusals raised -/
theorem app_len (x y : Str) : (x ++ y).length = x.length + y.length := by
  rw [TL.len_tl, TL.tl_append, List.length_append, ← TL.len_tl, ← TL.len_tl]
theorem js_len {acc y : Str} {a b : Nat} (h1 : acc.length ≤ a) (h2 : y.length ≤ b) (h : a + b ≤ 1000) : (acc ++ y).length ≤ sizeLine ∧ (acc ++ y).length ≤ a + b := by
  rw [app_len, sizeLine_eq]
  omega
theorem iX_len {i : Int} (h : i.natAbs < 10 ^ 3) : (Str.ofString (toString i)).length ≤ 4 := by
  rw [PySem.ofString_length]
  exact int_text_length_le10 (k := 3) (by decide) h
theorem log_small {i : Int} (h : i.natAbs < 1000) : i.natAbs.log2 < 1920 := by
  by_cases e : i.natAbs = 0
  · rw [e]; decide
  · have := (Nat.log2_lt (k := 10) e).mpr (Nat.lt_trans h (by decide))
    omega
theorem neT {x y : Int} (h : (!decide (V.int x = V.int y)) = true) : ¬ x = y := fun e => by
  rw [decide_eq_true (congrArg V.int e)] at h
  cases h
theorem neF {x y : Int} (h : ¬ (!decide (V.int x = V.int y)) = true) : x = y := by
  by_cases e : x = y
  · exact e
  · exfalso
    apply h
    rw [decide_eq_false (fun z => e (V.int.inj z))]
    rfl
/-- a class of the program whose instances are raised -/
structure Rai (K : PySem.W.Frag) (mg : Str → Option Value) (x : Str) (C : Addr) : Prop where
  q : PySem.W.excIn K C [.type "ValueError", .type "Exception", .type "BaseException", .type "object"] "ValueError.__new__" = true
  g : mg x = some (.ref C)
  k : PySem.W.keepIn K (.ref C) = true
  s : PySem.W.subIn K (.ref C) (.type "BaseException") = some true
  t : PySem.W.typeIn K (.ref C) = some (.type "type")
/-! ### read_row -/
theorem atI_last (l : List V) (x : V) : atI (l ++ [x]) (-1) = some x := by
  unfold atI ixN
  rw [if_neg (by decide), if_pos (by rw [List.length_append, List.length_singleton]; omega)]
  have e : ((-1 : Int) + ((l ++ [x]).length : Int)).toNat = l.length := by rw [List.length_append, List.length_singleton]; omega
  show (l ++ [x])[((-1 : Int) + ((l ++ [x]).length : Int)).toNat]? = some x
  rw [e, List.getElem?_append_right (Nat.le_refl _), Nat.sub_self]
  rfl
theorem cutMid {xs : List V} (h : xs ≠ []) : cutV xs (some 1) (some (-1)) = (xs.drop 1).dropLast := by
  have hl : 1 ≤ xs.length := by
    cases xs with
    | nil => exact absurd rfl h
    | cons x l => rw [List.length_cons]; omega
  have h1 : HT.sIx xs.length 0 (some 1) = 1 := by
    have : HT.sIx xs.length 0 (some 1) = min 1 xs.length := HT.sIx_nat _ _ 1
    rw [this]
    omega
  have h2 : HT.sIx xs.length xs.length (some (-1)) = xs.length - 1 := by
    show (if (-1 : Int) < 0 then ((-1 : Int) + (xs.length : Int)).toNat else min (-1 : Int).toNat xs.length) = _
    rw [if_pos (by decide)]
    omega
  unfold cutV
  rw [h1, h2, List.dropLast_eq_take, List.length_drop]
theorem awDrop {α β : Type} {F : α → β → Prop} : ∀ {l : List α} {l2 : List β} (k : Nat), Paired F l l2 → Paired F (l.drop k) (l2.drop k)
  | _, _, 0, h => h
  | _, _, _ + 1, .nil => .nil
  | _, _, k + 1, .cons _ t => awDrop k t
theorem awDropLast {α β : Type} {F : α → β → Prop} : ∀ {l : List α} {l2 : List β}, Paired F l l2 → Paired F l.dropLast l2.dropLast
  | _, _, .nil => .nil
  | _, _, .cons _ .nil => .nil
  | _, _, .cons r (.cons r2 t) => .cons r (awDropLast (.cons r2 t))
theorem lastD' {α : Type} (l : List α) (y d : α) : (l ++ [y]).getLastD d = y := by
  cases l with
  | nil => rfl
  | cons x l => exact lastD x l y d
theorem pV_deed (d : Deed) : pV (ptOf d) = dV d := by
  unfold pV ptOf dV
  rw [List.map_map]
  rfl
theorem ptsDs {H : Hp} : ∀ {as : List Addr} {ds : List Deed}, PtsAt H as (ds.map ptOf) → DsAt H as ds
  | [], [], _ => .nil
  | [], _ :: _, h => by cases h
  | _ :: _, [], h => by cases h
  | a :: as, d :: ds, h => by
    cases h with
    | cons r t => exact .cons (by rw [← pV_deed]; exact r) (ptsDs t)
theorem dsPts {H : Hp} : ∀ {as : List Addr} {ds : List Deed}, DsAt H as ds → PtsAt H as (ds.map ptOf)
  | _, _, .nil => .nil
  | _, _, .cons r t => .cons (by rw [pV_deed]; exact r) (dsPts t)
theorem part_nums {s : Str} : (partO s).2.length ≤ s.length + 2 := by
  have h := PyProof.Rows.split_le s " "
  unfold partO
  split
  · exact Nat.zero_le _
  · rename_i w ws e
    rw [e, List.length_cons] at h
    rw [List.length_map]
    omega
def readC (ps : List Pt) : Prop := (ps.headD ("", [])).2.length = 1 ∧ (ps.headD ("", [])).1 = "in" ∧ (ps.getLastD ("", [])).2.length = 1 ∧ (ps.getLastD ("", [])).1 = "out" ∧ rowB ((ps.headD ("", [])).2.headD none) ((ps.drop 1).dropLast) ((ps.getLastD ("", [])).2.headD none) = true
theorem read_none {t : Str} (h : ¬ readC (partsO t)) : readS t = none := if_neg h
theorem read_some {t : Str} (h : readC (partsO t)) : readS t = some ⟨((partsO t).headD ("", [])).2.headD none |>.getD 0, midD (((partsO t).drop 1).dropLast), ((partsO t).getLastD ("", [])).2.headD none |>.getD 0⟩ := if_pos h
def spRr (cN : Addr) : Sp := fun vs H Q E => ∃ t : Str, vs = [.str t] ∧ t.length ≤ 90000 ∧ (∀ r, readS t = some r → ∀ H' Z, Same H H' → RwAt H' Z r → Q (.ref Z) H') ∧ (readS t = none → ∀ H', Same H H' → E (.ref cN) none H')
theorem ok_rr {f fP fI cN : Addr} {fd fdP fdI : FuncData} {k : Nat} (F : Fun K "read_row" "read_row" s_read_row f fd) (rN : Rai K mg "NoText" cN) (GP : FnOk P w K mg base CX0 (k + 2) fP fdP ["text"] spRp) (kP : PySem.W.keepIn K (.ref fP) = true) (bP : Binds K fdP ["text"] []) (gP : mg "read_part" = some (.ref fP))
    (GI : FnOk P w K mg base CX0 (k + 5) fI fdI ["thing"] spIr) (kI : PySem.W.keepIn K (.ref fI) = true) (bI : Binds K fdI ["thing"] []) (gI : mg "is_row" = some (.ref fI)) (mi : mg "isinstance" = none) (mS : mg "str" = none) (mn : mg "len" = none) (mt : mg "tuple" = none) :
    FnOk P w K mg base (L2.CX P w) (k + 6) f fd ["text"] (spRr cN) := by
  refine F.okX sc_read_row (fun vs H Q E h => ?_) (fun cdv A outer s H vs Q E hr h => ?_)
  · obtain ⟨t, rfl, _⟩ := h
    rfl
  · obtain ⟨t, rfl, ht, qS, qN⟩ := h
    have r2 := hr.mono (show k + 2 ≤ k + 5 by omega)
    refine ⟨_, pss_cons (ps_if (pt_not (pt_val (pe_callB call_isi (by rfl) mi (by decide +kernel) (pa_cons (pv 0) (pa_cons (pe_bltn (v := .ty "str") (by rfl) mS (by decide +kernel) rfl) pa_nil)))))
        (pss_one (ps_raise rfl (takes_of rfl rfl rfl rfl) (SkE.pmk_own1 PySem.F.excBase_ValueError rN.q rN.g rN.k (raises_own rN.s rN.t) (by rfl) pe_str))) pss_nil)
      (pss_cons (ps_setLc (i := 1) (own := [("part", 5)]) (g := gName 5) (by rfl) sc_read_row.nd rfl rfl (sw_true rfl rfl rfl (by decide +kernel)) (pi_list (pe_split (pv 0) pe_str)) (blkOk_by (own := [("part", 5)]) (N := N_read_row) (sc := defScope s_read_row) (by decide +kernel))
          (fun _ _ _ _ _ => pg_name (i := 5) sc_read_row.nd rfl (Or.inl rfl)) (fun _ _ _ _ _ => pts_nil) (fun _ _ _ _ _ => pe_call GP r2 (by rfl) gP kP bP .nil pass0 (pa_cons (pv 5) pa_nil)))
      (pss_cons (ps_par (i := 2) (j := 3) rfl sc_read_row.nd rfl rfl (by decide) rfl rfl (pa_cons (pe_ix ix_list (pv 1) pe_int (fun _ _ => rfl)) (pa_cons (pe_ix ix_list (pv 1) (pe_un un_neg pe_int) (fun _ _ => rfl)) pa_nil)) (by rfl))
      (pss_cons (ps_if (PW.pt (pw_or (pt_cmpR op_ne (pe_callB call_len_seq (by rfl) mn PySem.boot_len (pa_cons (pv 2) pa_nil)) pe_int (nomark _)) (pw_or (pt_cmpR op_ne (pe_ix ix_tup (pv 2) pe_int (fun _ _ => rfl)) pe_str (nomark _))
          (pw_or (pt_cmpR op_ne (pe_callB call_len_seq (by rfl) mn PySem.boot_len (pa_cons (pv 3) pa_nil)) pe_int (nomark _)) (pw_or1 (pt_cmpR op_ne (pe_ix ix_tup (pv 3) pe_int (fun _ _ => rfl)) pe_str (nomark _)))))))
        (pss_one (ps_raise rfl (takes_of rfl rfl rfl rfl) (SkE.pmk_own1 PySem.F.excBase_ValueError rN.q rN.g rN.k (raises_own rN.s rN.t) (by rfl) pe_str))) pss_nil)
      (pss_cons (ps_set (i := 4) sc_read_row.nd rfl (.inl rfl) (pe_tup (pa_cons (pe_ix ix_tup (pv 2) pe_int (fun _ _ => rfl)) (pa_cons (pe_callTy call_tuple_of (by rfl) mt (by decide +kernel) (pa_cons (pe_slice sl_list (pv 1) (po_some pe_int) (po_some (pe_un un_neg pe_int))) pa_nil)) (pa_cons (pe_ix ix_tup (pv 3) pe_int (fun _ _ => rfl)) pa_nil)))))
      (pss_cons (ps_if (pt_not (pt_val (pe_call GI hr (by rfl) gI kI bI .nil pass0 (pa_cons (pv 4) pa_nil))))
        (pss_one (ps_raise rfl (takes_of rfl rfl rfl rfl) (SkE.pmk_own1 PySem.F.excBase_ValueError rN.q rN.g rN.k (raises_own rN.s rN.t) (by rfl) pe_str))) pss_nil)
      (pss_one (ps_ret (pv 4)))))))), ?_⟩
    have hne : Txt.split t "; " ≠ [] := split_ne (by decide +kernel) (by decide +kernel)
    have hle := PyProof.Rows.split_le t "; "
    obtain ⟨S, hS⟩ : ∃ S, S = Txt.split t "; " := ⟨_, rfl⟩
    have hpt : ∀ p ∈ S, p.length ≤ 90000 := fun p hp => by
      rw [hS] at hp
      exact Nat.le_trans (split_part hp) ht
    have hps : partsO t = S.map partO := by rw [hS]; rfl
    refine ⟨.str t, rfl, .str t, .ty "str", .type "str", .type "str", true, rfl, .ty "str", .base (.str t), kit_ty (by decide +kernel), true, rfl, ?_⟩
    refine ⟨.str t, rfl, ⟨_, rfl⟩, t, "; ", rfl, rfl, by decide +kernel, by rw [sizeLine_eq]; omega, fun L0 hL0 => ?_⟩
    rw [← hS] at hne hle ⊢
    have sL0 := same_new (o := .lst (S.map V.str)) hL0
    refine ⟨L0, rfl, ⟨_, .inl (.inl upd_same)⟩, fun L hL => ?_⟩
    have eL0 : ∀ {H4 : Hp}, Same (upd H L0 (.lst (S.map V.str))) H4 → H4 L0 = some (.lst (S.map V.str)) := fun s4 => s4 _ _ upd_same
    refine lc_list (K := K) (a := L0) (xs := S.map V.str) (fun j H4 => ∃ as, H4 L = some (.lst (as.map V.ref)) ∧ PtsAt H4 as ((S.take j).map partO) ∧ Same (upd H L0 (.lst (S.map V.str))) H4) ⟨[], upd_same, .nil, same_new hL⟩ (fun j H4 _ h4 => by
      obtain ⟨_, _, _, s4⟩ := h4
      exact .inl (.inl (eL0 s4))) (fun j x H4 hx h4 => ?_) (fun H4 h4 => ?_)
    · obtain ⟨as, eL, has, s4⟩ := h4
      have hj := (List.getElem?_eq_some_iff.mp hx).1
      rw [List.length_map] at hj
      rw [List.getElem?_map] at hx
      obtain ⟨z, hz, rfl⟩ := Option.map_eq_some_iff.mp hx
      have la := awLen has
      rw [List.length_map, List.length_take] at la
      refine ⟨rfl, .str z, rfl, z, rfl, Nat.le_trans (hpt z (List.mem_of_getElem? hz)) (by decide), fun H5 r s5 er => ⟨_, s5 _ _ eL, ?_, as ++ [r], ?_, ?_, ?_⟩⟩
      · rw [List.length_map, sizeLine_eq]
        omega
      · rw [upd_same, List.map_append]
        rfl
      · rw [List.take_add_one, hz, List.map_append]
        exact stayPts (tups_put (s5 _ _ eL)) (awSnoc (F := fun r p => H5 r = some (.tup (pV p))) er (stayPts (Same.tups s5) has))
      · intro b u e
        rw [upd_ne (ne_of_none e hL)]
        exact s5 _ _ (s4 _ _ e)
    · obtain ⟨as, eL, has, s4⟩ := h4
      rw [List.length_map, List.take_length, ← hps] at has
      have s04 := sL0.trans s4
      obtain ⟨ps, hpsd⟩ : ∃ ps, ps = partsO t := ⟨_, rfl⟩
      rw [← hpsd] at has
      have la := awLen has
      have lps : ps.length = S.length := by rw [hpsd, hps, List.length_map]
      have psne : ps ≠ [] := fun z => by
        rw [z, List.length_nil] at lps
        exact hne (List.length_eq_zero_iff.mp lps.symm)
      have asne : as ≠ [] := fun z => by
        rw [z, List.length_nil] at la
        exact psne (List.length_eq_zero_iff.mp la.symm)
      obtain ⟨a0, as0, ha0⟩ : ∃ a0 as0, as = a0 :: as0 := by
        cases as with
        | nil => exact absurd rfl asne
        | cons x l => exact ⟨x, l, rfl⟩
      obtain ⟨p0, ps0, hp0⟩ : ∃ p0 ps0, ps = p0 :: ps0 := by
        cases ps with
        | nil => exact absurd rfl psne
        | cons x l => exact ⟨x, l, rfl⟩
      obtain ⟨as1, al, hal⟩ := snocOf asne
      obtain ⟨ps1, pl, hpl⟩ := snocOf psne
      have e0 : H4 a0 = some (.tup (pV p0)) := by
        have := has
        rw [ha0, hp0] at this
        cases this with
        | cons r _ => exact r
      have el : H4 al = some (.tup (pV pl)) := by
        have l1 : as1.length = ps1.length := by
          rw [hal, hpl, List.length_append, List.length_append] at la
          simpa using la
        obtain ⟨y, hy, hF⟩ := awGet (i := as1.length) (x := al) has (by rw [hal, List.getElem?_append_right (Nat.le_refl _), Nat.sub_self]; rfl)
        rw [hpl, l1, List.getElem?_append_right (Nat.le_refl _), Nat.sub_self] at hy
        obtain rfl : pl = y := Option.some.inj hy
        exact hF
      have hd : ps.headD ("", []) = p0 := by rw [hp0]; rfl
      have hl : ps.getLastD ("", []) = pl := by rw [hpl]; exact lastD' _ _ _
      have SL : SqL K H4 L (as.map V.ref) := .inl (.inl eL)
      have at0 : atI (as.map V.ref) 0 = some (.ref a0) := awAt0 ha0
      have atl : atI (as.map V.ref) (-1) = some (.ref al) := by
        rw [hal, List.map_append]
        exact atI_last _ _
      refine ⟨.ref L, rfl, L, _, 0, .ref a0, rfl, rfl, SL, at0, .ref L, rfl, 1, rfl, L, _, -1, .ref al, rfl, rfl, SL, atl, _, _, rfl, ?_⟩
      have lenP : ∀ p : Pt, (((pV p).length : Nat) : Int) = p.2.length + 1 := fun p => by
        show (((_ :: List.map _ _).length : Nat) : Int) = _
        rw [List.length_cons, List.length_map]
        omega
      have no : ¬ readC ps → ∀ H', Same H H' → E (.ref cN) none H' := fun hn => qN (read_none (by rw [← hpsd]; exact hn))
      refine ⟨.ref a0, rfl, a0, _, rfl, .inr (SqT.of e0), ⟨rfl, _, rfl, ite2 (fun hne1 => ?_) (fun heq1 => ?_)⟩⟩
      · have z := neT hne1
        rw [lenP] at z
        exact no (fun c => by
          have := c.1
          rw [hd] at this
          omega) H4 s04
      have c1 : p0.2.length = 1 := by
        have z := neF heq1
        rw [lenP] at z
        omega
      refine ⟨.ref a0, rfl, a0, _, 0, .str p0.1, rfl, rfl, SqT.of e0, atI_nat (j := 0) rfl, ⟨rfl, _, rfl, ite2 (fun hne2 => ?_) (fun heq2 => ?_)⟩⟩
      · refine no (fun c => ?_) H4 s04
        have z := c.2.1
        rw [hd] at z
        rw [decide_eq_true (congrArg V.str z)] at hne2
        cases hne2
      have c2 : p0.1 = "in" := by
        by_cases e : p0.1 = "in"
        · exact e
        · exact absurd (by rw [decide_eq_false (fun y => e (V.str.inj y))]; rfl) heq2
      refine ⟨.ref al, rfl, al, _, rfl, .inr (SqT.of el), ⟨rfl, _, rfl, ite2 (fun hne3 => ?_) (fun heq3 => ?_)⟩⟩
      · have z := neT hne3
        rw [lenP] at z
        exact no (fun c => by
          have := c.2.2.1
          rw [hl] at this
          omega) H4 s04
      have c3 : pl.2.length = 1 := by
        have z := neF heq3
        rw [lenP] at z
        omega
      refine ⟨.ref al, rfl, al, _, 0, .str pl.1, rfl, rfl, SqT.of el, atI_nat (j := 0) rfl, ⟨rfl, _, rfl, ite2 (fun hne4 => ?_) (fun heq4 => ?_)⟩⟩
      · refine no (fun c => ?_) H4 s04
        have z := c.2.2.2.1
        rw [hl] at z
        rw [decide_eq_true (congrArg V.str z)] at hne4
        cases hne4
      have c4 : pl.1 = "out" := by
        by_cases e : pl.1 = "out"
        · exact e
        · exact absurd (by rw [decide_eq_false (fun y => e (V.str.inj y))]; rfl) heq4
      have eV0 : pV p0 = [.str p0.1, oV (p0.2.headD none)] := by
        unfold pV
        conv => lhs; rw [len1 c1]
        rfl
      have eVl : pV pl = [.str pl.1, oV (pl.2.headD none)] := by
        unfold pV
        conv => lhs; rw [len1 c3]
        rfl
      rw [eV0] at e0
      rw [eVl] at el
      refine ⟨.ref a0, rfl, a0, _, 1, oV (p0.2.headD none), rfl, rfl, SqT.of e0, atI_nat (j := 1) rfl, .ref L, rfl, 1, rfl, 1, rfl, -1, rfl, L, _, rfl, SL, fun M hM => ?_⟩
      rw [cutMid (fun z => asne (List.map_eq_nil_iff.mp z)), List.map_drop.symm, List.map_dropLast.symm]
      have sM := same_new (o := .lst (((as.drop 1).dropLast).map V.ref)) hM
      refine ⟨M, _, rfl, .inl ⟨.inl (.inl upd_same), fun D hD => ?_⟩⟩
      have sD := same_new (o := .tup (((as.drop 1).dropLast).map V.ref)) hD
      refine ⟨.ref al, rfl, al, _, 1, oV (pl.2.headD none), rfl, rfl, SqT.of (sD _ _ (sM _ _ el)), atI_nat (j := 1) rfl, (by show 3 ≤ sizeLine; decide), fun Z hZ => ?_⟩
      have sZ := same_new (o := .tup [oV (p0.2.headD none), .ref D, oV (pl.2.headD none)]) hZ
      have s4Z := sM.trans (sD.trans sZ)
      have hmid := stayPts (Same.tups s4Z) (awDropLast (awDrop 1 has))
      refine ⟨.ref Z, rfl, Z, D, (as.drop 1).dropLast, p0.2.headD none, pl.2.headD none, (ps.drop 1).dropLast, rfl, upd_same, sZ _ _ upd_same, hmid, fun p hp => ?_, fun H6 s6 => ?_⟩
      · have hp1 : p ∈ ps := List.mem_of_mem_drop ((List.dropLast_sublist _).subset hp)
        rw [hpsd, hps] at hp1
        obtain ⟨z, hz, rfl⟩ := List.mem_map.mp hp1
        have := hpt z hz
        have := part_nums (s := z)
        omega
      have sH6 := s04.trans (s4Z.trans s6)
      refine ⟨_, rfl, ?_⟩
      cases hb : rowB (p0.2.headD none) ((ps.drop 1).dropLast) (pl.2.headD none) with
      | false =>
        refine no (fun c => ?_) H6 sH6
        have z := c.2.2.2.2
        rw [hd, hl, hb] at z
        cases z
      | true =>
        have hc : readC ps := ⟨by rw [hd]; exact c1, by rw [hd]; exact c2, by rw [hl]; exact c3, by rw [hl]; exact c4, by rw [hd, hl]; exact hb⟩
        have hrd := read_some (t := t) (by rw [← hpsd]; exact hc)
        rw [← hpsd, hd, hl] at hrd
        obtain ⟨b1, b2, b3, b4⟩ := rowB_ok hb
        refine ⟨.ref Z, rfl, qS _ hrd H6 Z sH6 ⟨D, (as.drop 1).dropLast, ?_, s6 _ _ (sZ _ _ upd_same), ?_⟩⟩
        · have z := s6 _ _ (upd_same (H := upd (upd H4 M (.lst (((as.drop 1).dropLast).map V.ref))) D (.tup (((as.drop 1).dropLast).map V.ref))) (a := Z) (o := .tup [oV (p0.2.headD none), .ref D, oV (pl.2.headD none)]))
          rw [b1, b2] at z
          exact z
        · refine ptsDs ?_
          rw [b3]
          exact stayPts (Same.tups s6) hmid
/-! ### texts of plain signs -/
def Lo (t : Str) : Prop := ∀ c ∈ TL.tl t, c < 16 ^ 8
theorem lo_dec {x : Str} (h : (x.cps.toList.all fun c => decide (c < 16 ^ 8)) = true) : Lo x := fun c hc => of_decide_eq_true (List.all_eq_true.mp h c hc)
theorem Lo.all {x : Str} (h : Lo x) : (x.cps.toList.all fun c => decide (c < 16 ^ 8)) = true := List.all_eq_true.mpr fun c hc => decide_eq_true (h c hc)
theorem lo_app {a b : Str} (h : Lo a) (k : Lo b) : Lo (a ++ b) := fun c hc => by
  rw [TL.tl_append] at hc
  exact (List.mem_append.mp hc).elim (h c) (k c)
theorem lo_cut {t : Str} (h : Lo t) (lo hi : Option Int) : Lo (cutS t lo hi) := fun c hc => by
  have hc' : c ∈ ((t.cps.toList.drop (HT.sIx t.length 0 lo)).take (HT.sIx t.length t.length hi - HT.sIx t.length 0 lo)).toArray.toList := hc
  rw [List.toList_toArray] at hc'
  exact h c (List.mem_of_mem_drop (List.mem_of_mem_take hc'))
theorem lo_one {z : Str} (h : Lo z) {i : Nat} (hi : i < z.cps.size) : Lo ⟨#[z.cps[i]]⟩ := fun c hc => by
  have hc' : c ∈ [z.cps[i]] := hc
  rw [List.mem_singleton.mp hc']
  exact h _ (by show z.cps[i] ∈ z.cps.toList; exact Array.getElem_mem_toList hi)
theorem in_joinL {c : Nat} {S p : List Nat} : ∀ {ps : List (List Nat)}, p ∈ ps → c ∈ p → c ∈ TL.joinL S ps
  | [q], h, hc => by
    rw [List.mem_singleton.mp h] at hc
    exact hc
  | q :: q2 :: r, h, hc => by
    show c ∈ q ++ (S ++ TL.joinL S (q2 :: r))
    rcases List.mem_cons.mp h with rfl | h
    · exact List.mem_append_left _ hc
    · exact List.mem_append_right _ (List.mem_append_right _ (in_joinL h hc))
theorem lo_join {y : Str} {ys : List Str} (hy : Lo y) (h : ∀ p ∈ ys, Lo p) : Lo (Txt.join y ys) := fun c hc => by
  rw [TL.join_eq, TL.tl_join] at hc
  rcases mem_joinL hc with hc | ⟨p, hp, hc⟩
  · exact hy c hc
  · obtain ⟨q, hq, rfl⟩ := List.mem_map.mp hp
    exact h q hq c hc
theorem lo_split {t y : Str} (h : Lo t) : ∀ p ∈ Txt.split t y, Lo p := fun p hp c hc => by
  have e := PySem.StrLaws.join_split t y
  have e2 : TL.tl t = TL.joinL (TL.tl y) ((Txt.split t y).map TL.tl) := by rw [← TL.tl_join, e]
  refine h c ?_
  rw [e2]
  exact in_joinL (List.mem_map.mpr ⟨p, hp, rfl⟩) hc
theorem lo_rep {x : Array Nat} (h : ∀ c ∈ x.toList, c < 16 ^ 8) : ∀ (n : Nat) (acc : Array Nat), (∀ c ∈ acc.toList, c < 16 ^ 8) → ∀ c ∈ ((List.replicate n x).foldl (· ++ ·) acc).toList, c < 16 ^ 8
  | 0, acc, ha => ha
  | n + 1, acc, ha => by
    rw [List.replicate_succ, List.foldl_cons]
    refine lo_rep h n _ fun c hc => ?_
    rw [Array.toList_append] at hc
    exact (List.mem_append.mp hc).elim (ha c) (h c)
/-! ### texts bent -/
def tot (ys : List Str) : Nat := (ys.map Str.length).sum
theorem tot_append (a b : List Str) : tot (a ++ b) = tot a + tot b := by
  unfold tot
  rw [List.map_append, List.sum_append]
theorem tot_cons (x : Str) (a : List Str) : tot (x :: a) = x.length + tot a := by
  unfold tot
  rw [List.map_cons, List.sum_cons]
theorem tot_take : ∀ (k : Nat) (l : List Str), tot (l.take k) ≤ tot l
  | 0, l => by
    rw [List.take_zero]
    exact Nat.zero_le _
  | _ + 1, [] => Nat.le_refl _
  | k + 1, x :: l => by
    rw [List.take_succ_cons, tot_cons, tot_cons]
    have := tot_take k l
    omega
theorem tot_drop : ∀ (k : Nat) (l : List Str), tot (l.drop k) ≤ tot l
  | 0, l => Nat.le_refl _
  | _ + 1, [] => Nat.le_refl _
  | k + 1, x :: l => by
    rw [List.drop_succ_cons, tot_cons]
    have := tot_drop k l
    omega
theorem tot_mem {x : Str} : ∀ {l : List Str}, x ∈ l → x.length ≤ tot l
  | y :: l, h => by
    rw [tot_cons]
    rcases List.mem_cons.mp h with rfl | h
    · omega
    · have := tot_mem h
      omega
theorem tot_set (o : Str) : ∀ (l : List Str) (j : Nat), tot (l.set j o) ≤ tot l + o.length
  | [], _ => by
    show tot [] ≤ _
    omega
  | x :: l, 0 => by
    show tot (o :: l) ≤ _
    rw [tot_cons, tot_cons]
    omega
  | x :: l, j + 1 => by
    show tot (x :: l.set j o) ≤ _
    rw [tot_cons, tot_cons]
    have := tot_set o l j
    omega
theorem cut_strs (ys : List Str) (lo hi : Option Int) : ∃ zs : List Str, cutV (ys.map V.str) lo hi = zs.map V.str ∧ zs.length ≤ ys.length ∧ tot zs ≤ tot ys ∧ ∀ z ∈ zs, z ∈ ys := by
  refine ⟨(ys.drop (HT.sIx (ys.map V.str).length 0 lo)).take (HT.sIx (ys.map V.str).length (ys.map V.str).length hi - HT.sIx (ys.map V.str).length 0 lo), ?_, ?_, ?_, fun z hz => List.mem_of_mem_drop (List.mem_of_mem_take hz)⟩
  · unfold cutV
    rw [List.map_take, List.map_drop]
  · rw [List.length_take, List.length_drop]
    omega
  · exact Nat.le_trans (tot_take _ _) (tot_drop _ _)
theorem sum_joinL (S : List Nat) : ∀ (ps : List (List Nat)), (ps.map List.length).sum ≤ (TL.joinL S ps).length
  | [] => Nat.le_refl _
  | [p] => by simp [TL.joinL]
  | p :: q :: r => by
    have := sum_joinL S (q :: r)
    show _ ≤ (p ++ (S ++ TL.joinL S (q :: r))).length
    rw [List.length_append, List.length_append, List.map_cons, List.sum_cons]
    omega
theorem tot_tl (ys : List Str) : tot ys = ((ys.map TL.tl).map List.length).sum := by
  unfold tot
  rw [List.map_map]
  congr 1
theorem split_tot (t y : Str) : tot (Txt.split t y) ≤ t.length := by
  have e := PySem.StrLaws.join_split t y
  have e2 : TL.tl t = TL.joinL (TL.tl y) ((Txt.split t y).map TL.tl) := by rw [← TL.tl_join, e]
  rw [tot_tl, TL.len_tl t, e2]
  exact sum_joinL _ _
theorem join_len (y : Str) (ys : List Str) : (Txt.join y ys).length ≤ tot ys + ys.length * y.length := by
  rw [TL.join_eq, TL.len_tl, TL.tl_join, tot_tl, TL.len_tl y]
  refine Nat.le_trans (joinL_len _ _) ?_
  rw [List.length_map]
  exact Nat.le_refl _
theorem at_str {ys : List Str} {z : Int} (h0 : 0 ≤ z) (h1 : z < ys.length) : ∃ o, o ∈ ys ∧ atI (ys.map V.str) z = some (.str o) := by
  obtain ⟨k, rfl⟩ := Int.eq_ofNat_of_zero_le h0
  have hk : k < ys.length := by omega
  exact ⟨ys[k], List.getElem_mem hk, atI_nat (by rw [List.getElem?_map, List.getElem?_eq_getElem hk]; rfl)⟩
theorem rep_size {α : Type} (x : Array α) : ∀ (n : Nat) (acc : Array α), ((List.replicate n x).foldl (· ++ ·) acc).size = acc.size + n * x.size
  | 0, acc => by simp
  | n + 1, acc => by
    rw [List.replicate_succ, List.foldl_cons, rep_size x n, Array.size_append, Nat.add_mul]
    omega
section
variable {X : Cx}
def rMulS : R2 := fun x y H Q => ∃ n : Int, x = .str "9" ∧ y = .int n ∧ (n = 60 ∨ n = 1800) ∧ ∀ z : Str, z.length ≤ 1800 → Lo z → Q (.str z) H
theorem op_mulS : OpR X (binaryOp .Mult) rMulS := by
  intro pins s σ H x y v u Q I rx ry h
  obtain ⟨n, rfl, rfl, hn, q⟩ := h
  obtain ⟨t, rfl⟩ := rx
  obtain ⟨t', rfl⟩ := ry
  have l9 : (Str.ofString "9").length = 1 := by decide +kernel
  have key : ∀ n : Int, (n = 60 ∨ n = 1800) → (n == 1 || (Str.ofString "9").length == 0) = false := fun n hn => by
    rw [l9]
    rcases hn with rfl | rfl <;> decide
  refine PySem.P.mul_str ?_ (fun _ _ => ?_) (fun _ _ => ?_) ?_
  · rcases hn with rfl | rfl <;> decide
  · rw [l9]
    rcases hn with rfl | rfl <;> decide
  · rw [l9]
    rcases hn with rfl | rfl <;> decide
  · rw [if_neg (by rcases hn with rfl | rfl <;> decide), key n hn]
    have hsz : (⟨(List.replicate n.toNat (Str.ofString "9").cps).foldl (· ++ ·) #[]⟩ : Str).length ≤ 1800 := by
      show ((List.replicate n.toNat (Str.ofString "9").cps).foldl (· ++ ·) #[]).size ≤ 1800
      rw [rep_size]
      have : (Str.ofString "9").cps.size = 1 := l9
      rw [this]
      rcases hn with rfl | rfl <;> decide
    exact ⟨by rw [sizeLine_eq]; omega, ⟨.str _, H, I.tok _, ⟨_, rfl⟩, q _ hsz (lo_rep (lo_dec (x := "9") (by decide +kernel)) _ _ (fun _ z => nomatch z))⟩⟩
end
def sgS : Str := Str.ofString " !\"#$&'()*+,-./0123456789:;<=>?@ABCDEFGHIJKLMNOPQRSTUVWXYZ" ++ Str.ofString "[\\]^_abcdefghijklmnopqrstuvwxyz{|}~\t\n" ++ Str.ofString "`"
def spSg : Sp := fun vs H Q _ => vs = [] ∧ Q (.str sgS) H
theorem ok_sg {f : Addr} {fd : FuncData} {k : Nat} (F : Fun K "_law_signs" "_law_signs" s_law_signs f fd) : FnOk P w K mg base CX0 (k + 1) f fd [] spSg := by
  refine F.ok sc_law_signs (fun vs H Q E h => ?_) (fun cdv A outer s H vs Q E hr h => ?_)
  · rw [h.1]
    rfl
  · obtain ⟨rfl, q⟩ := h
    refine ⟨_, pss_cons (ps_set (i := 0) sc_law_signs.nd rfl (.inl rfl) pe_str) (pss_one (ps_ret (pe_op op_add_str (pe_op op_add_str (pv 0) pe_str) pe_str))), ?_⟩
    exact ⟨_, rfl, _, _, rfl, rfl, by decide +kernel, _, _, rfl, rfl, by decide +kernel, q⟩
theorem sg_len : sgS.length = 96 := by decide +kernel
def spBt : Sp := fun vs H Q _ => ∃ (a c : Addr) (t : Str), vs = [.ref a, .str t] ∧ t.length ≤ 12000 ∧ Lo t ∧ WL H a c ∧ ∀ H' t', t'.length ≤ 7 * t.length + 4000 → Lo t' → WL H' a c → Kp a c H H' → Q (.str t') H'
set_option maxHeartbeats 4000000 in
theorem ok_bt {f fD fS : Addr} {fd fdD fdS : FuncData} {k : Nat} (F : Fun K "_law_bent_text" "_law_bent_text" s_law_bent_text f fd) (GD : FnOk P w K mg base CX0 (k + 1) fD fdD ["well", "many"] spDraw) (kD : PySem.W.keepIn K (.ref fD) = true) (bD : Binds K fdD ["well", "many"] []) (gD : mg "_law_draw" = some (.ref fD))
    (GS : FnOk P w K mg base CX0 (k + 1) fS fdS [] spSg) (kS : PySem.W.keepIn K (.ref fS) = true) (bS : Binds K fdS [] []) (gS : mg "_law_signs" = some (.ref fS)) (mn : mg "len" = none) (mI : mg "int" = none) : FnOk P w K mg base CX0 (k + 2) f fd ["well", "text"] spBt := by
  refine F.ok sc_law_bent_text (fun vs H Q E h => ?_) (fun cdv A outer s H vs Q E hr h => ?_)
  · obtain ⟨a, c, t, rfl, _⟩ := h
    rfl
  · obtain ⟨a, c, t, rfl, ht, hlo, hw, q⟩ := h
    refine ⟨_, pss_cons (ps_set (i := 2) sc_law_bent_text.nd rfl (.inl rfl) (pe_call GD hr (by rfl) gD kD bD .nil pass0 (pa_cons (pv 0) (pa_cons pe_int pa_nil))))
      (pss_cons (ps_set (i := 3) sc_law_bent_text.nd rfl (.inl rfl) (pe_call0 GS hr (by rfl) gS kS bS .nil pass0))
      (pss_cons (ps_if (pt_cmpR op_lt (pv 2) pe_int (nomark _))
        (pss_cons (ps_set (i := 4) sc_law_bent_text.nd rfl (.inl rfl) (pe_call GD hr (by rfl) gD kD bD .nil pass0 (pa_cons (pv 0) (pa_cons (pe_op op_add (pe_callB call_len_str (by rfl) mn PySem.boot_len (pa_cons (pv 1) pa_nil)) pe_int) pa_nil))))
        (pss_cons (ps_set (i := 5) sc_law_bent_text.nd rfl (.inl rfl) (pe_ix ix_list (pe_lst (pa_cons pe_str (pa_cons (pe_item_str pe_str (pe_call GD hr (by rfl) gD kD bD .nil pass0 (pa_cons (pv 0) (pa_cons pe_int pa_nil))) (fun _ _ => rfl)) pa_nil))) (pe_callTy call_int1 (by rfl) mI (by decide +kernel) (pa_cons (pe_cmpR op_eq (pv 2) pe_int (nomark _)) pa_nil)) (fun _ _ => rfl)))
        (pss_mid (ps_if (pt_cmpR op_eq (pv 2) pe_int (nomark _)) (pss_one (ps_set (i := 5) sc_law_bent_text.nd rfl (.inl rfl) (pe_item_str (pv 3) (pe_call GD hr (by rfl) gD kD bD .nil pass0 (pa_cons (pv 0) (pa_cons (pe_callB call_len_str (by rfl) mn PySem.boot_len (pa_cons (pv 3) pa_nil)) pa_nil))) (fun _ _ => rfl)))) pss_nil)
        (pss_cons (ps_set (i := 6) sc_law_bent_text.nd rfl (.inl rfl) (pe_call GD hr (by rfl) gD kD bD .nil pass0 (pa_cons (pv 0) (pa_cons pe_int pa_nil))))
        (pss_one (ps_ret (pe_op op_add_str (pe_op op_add_str (pe_slice sl_str (pv 1) po_none (po_some (pv 4))) (pv 5)) (pe_slice sl_str (pv 1) (po_some (pe_op op_add (pv 4) (pv 6))) po_none)))))))) pss_nil)
      (pss_cons (ps_set (i := 7) sc_law_bent_text.nd rfl (.inl rfl) (pe_split (pv 1) pe_str))
      (pss_cons (ps_set (i := 4) sc_law_bent_text.nd rfl (.inl rfl) (pe_call GD hr (by rfl) gD kD bD .nil pass0 (pa_cons (pv 0) (pa_cons (pe_callB call_len_seq (by rfl) mn PySem.boot_len (pa_cons (pv 7) pa_nil)) pa_nil))))
      (pss_cons (ps_set (i := 8) sc_law_bent_text.nd rfl (.inl rfl) (pe_call GD hr (by rfl) gD kD bD .nil pass0 (pa_cons (pv 0) (pa_cons (pe_op op_add (pe_callB call_len_seq (by rfl) mn PySem.boot_len (pa_cons (pv 7) pa_nil)) pe_int) pa_nil))))
      (pss_cons (ps_if (pt_cmpR op_eq (pv 2) pe_int (nomark _)) (pss_one (ps_ret (pe_join pe_str (pe_op op_cat (pe_slice sl_list (pv 7) po_none (po_some (pv 4))) (pe_slice sl_list (pv 7) (po_some (pe_op op_add (pv 4) pe_int)) po_none))))) pss_nil)
      (pss_cons (ps_if (pt_cmpR op_eq (pv 2) pe_int (nomark _)) (pss_one (ps_ret (pe_join pe_str (pe_op op_cat (pe_op op_cat (pe_slice sl_list (pv 7) po_none (po_some (pv 8))) (pe_lst (pa_cons (pe_ix ix_list (pv 7) (pv 4) (fun _ _ => rfl)) pa_nil))) (pe_slice sl_list (pv 7) (po_some (pv 8)) po_none))))) pss_nil)
      (pss_cons (ps_if (pt_cmpR op_eq (pv 2) pe_int (nomark _)) (pss_one (ps_ret (pe_join pe_str (pe_op op_cat (pe_op op_cat (pe_slice sl_list (pv 7) po_none (po_some pe_int)) (pe_op op_rep (pe_lst (pa_cons pe_str pa_nil)) (pe_call GD hr (by rfl) gD kD bD .nil pass0 (pa_cons (pv 0) (pa_cons pe_int pa_nil))))) (pe_slice sl_list (pv 7) (po_some pe_int) po_none))))) pss_nil)
      (pss_cons (ps_if (pt_cmpR op_eq (pv 2) pe_int (nomark _))
        (pss_cons (ps_set (i := 9) sc_law_bent_text.nd rfl (.inl rfl) (pe_ix ix_list (pe_lst (pa_cons pe_str (pa_cons pe_str (pa_cons pe_str (pa_cons pe_str (pa_cons pe_str (pa_cons pe_str pa_nil))))))) (pe_call GD hr (by rfl) gD kD bD .nil pass0 (pa_cons (pv 0) (pa_cons pe_int pa_nil))) (fun _ _ => rfl)))
        (pss_one (ps_ret (pe_op op_add_str (pe_op op_add_str (pe_join pe_str (pe_slice sl_list (pv 7) po_none (po_some (pv 4)))) (pv 9)) (pe_join pe_str (pe_slice sl_list (pv 7) (po_some (pv 4)) po_none)))))) pss_nil)
      (pss_cons (ps_set (i := 10) sc_law_bent_text.nd rfl (.inl rfl) (pe_split (pe_ix ix_list (pv 7) (pv 4) (fun _ _ => rfl)) pe_str))
      (pss_cons (ps_set (i := 11) sc_law_bent_text.nd rfl (.inl rfl) (pe_call GD hr (by rfl) gD kD bD .nil pass0 (pa_cons (pv 0) (pa_cons (pe_callB call_len_seq (by rfl) mn PySem.boot_len (pa_cons (pv 10) pa_nil)) pa_nil))))
      (pss_cons (ps_set (i := 12) sc_law_bent_text.nd rfl (.inl rfl) (pe_lst (pa_cons pe_str (pa_cons pe_str (pa_cons pe_str (pa_cons pe_str (pa_cons pe_str (pa_cons pe_str (pa_cons pe_str (pa_cons pe_str (pa_cons pe_str (pa_cons pe_str (pa_cons pe_str (pa_cons pe_str (pa_cons pe_str (pa_cons pe_str (pa_cons pe_str (pa_cons pe_str (pa_cons pe_str (pa_cons pe_str pa_nil))))))))))))))))))))
      (pss_cons (ps_set (i := 12) sc_law_bent_text.nd rfl (.inl rfl) (pe_op op_cat (pv 12) (pe_lst (pa_cons pe_str (pa_cons pe_str (pa_cons (pe_op op_mulS pe_str pe_int) (pa_cons (pe_op op_mulS pe_str pe_int) (pa_cons pe_str (pa_cons pe_str (pa_cons pe_str (pa_cons pe_str pa_nil)))))))))))
      (pss_cons (ps_asg (pe_ix ix_list (pv 12) (pe_call GD hr (by rfl) gD kD bD .nil pass0 (pa_cons (pv 0) (pa_cons pe_int pa_nil))) (fun _ _ => rfl)) (pg_sub (pv 10) (pv 11) set_list))
      (pss_cons (ps_asg (pe_join pe_str (pv 10)) (pg_sub (pv 7) (pv 4) set_list))
      (pss_one (ps_ret (pe_join pe_str (pv 7))))))))))))))))))), ?_⟩
    refine ⟨.ref a, rfl, a, c, 9, rfl, by decide, by decide, hw, fun H1 wy wy0 wy1 w1 k1 => ⟨rfl, ?_⟩⟩
    have hts : t.length ≤ sizeLine := by rw [sizeLine_eq]; omega
    refine ⟨.int wy, rfl, wy, 3, rfl, rfl, _, rfl, ite2 (fun h3 => ?_) (fun h3 => ?_)⟩
    · refine ⟨.ref a, rfl, .str t, rfl, t, rfl, hts, _, 1, rfl, rfl, a, c, _, rfl, by omega, by omega, w1, fun H2 at_ at0 at1 w2 k2 => ?_⟩
      have l12 : (Str.ofString "0123456789; ").length = 12 := by decide +kernel
      refine ⟨.ref a, rfl, a, c, 12, rfl, by decide, by decide, w2, fun H3 zi zi0 zi1 w3 k3 => ?_⟩
      have hzi : zi.toNat < (Str.ofString "0123456789; ").cps.size := by
        have : (Str.ofString "0123456789; ").cps.size = 12 := l12
        omega
      refine ⟨_, zi, _, rfl, rfl, zi0, by omega, by rw [l12]; omega, Array.getElem?_eq_getElem hzi, (by show 2 ≤ sizeLine; decide), fun M hM => ?_⟩
      have sM := same_new (o := .lst [.str "", .str ⟨#[(Str.ofString "0123456789; ").cps[zi.toNat]]⟩]) hM
      have w4 := w3.same sM
      have k4 : Kp a c H (upd H3 M (.lst [.str "", .str ⟨#[(Str.ofString "0123456789; ").cps[zi.toNat]]⟩])) := ((k1.trans k2).trans k3).trans (Same.kp sM)
      obtain ⟨sg, hsg, hsgl, hsgo⟩ : ∃ sg : Str, atI [V.str "", .str ⟨#[(Str.ofString "0123456789; ").cps[zi.toNat]]⟩] (if decide (V.int wy = V.int 1) then 1 else 0) = some (.str sg) ∧ sg.length ≤ 1 ∧ Lo sg := by
        by_cases e : V.int wy = V.int 1
        · rw [decide_eq_true e]
          exact ⟨_, atI_nat (j := 1) rfl, Nat.le_refl _, lo_one (lo_dec (by decide +kernel)) hzi⟩
        · rw [decide_eq_false e]
          exact ⟨"", atI_nat (j := 0) rfl, by decide +kernel, lo_dec (by decide +kernel)⟩
      refine ⟨.int wy, rfl, rfl, .inr ⟨_, rfl, M, _, _, .str sg, rfl, rfl, .inl (.inl upd_same), hsg, ?_⟩⟩
      refine ⟨fun σ H' => ∃ sg2 : Str, sg2.length ≤ 1 ∧ Lo sg2 ∧ σ = [some (.ref a), some (.str t), some (.int wy), some (.str sgS), some (.int at_), some (.str sg2), none, none, none, none, none, none, none] ∧ WL H' a c ∧ Kp a c H H', ?_, ?_⟩
      · refine ⟨.int wy, rfl, rfl, _, rfl, ite2 (fun e => ?_) (fun e => ⟨sg, hsgl, hsgo, rfl, w4, k4⟩)⟩
        refine ⟨.str sgS, rfl, .ref a, rfl, .str sgS, rfl, sgS, rfl, by rw [sg_len]; decide, a, c, _, rfl, by rw [sg_len]; decide, by rw [sg_len]; decide, w4, fun H5 z5 z50 z51 w5 k5 => ?_⟩
        rw [sg_len] at z51
        have hz5 : z5.toNat < sgS.cps.size := by
          have : sgS.cps.size = 96 := sg_len
          omega
        exact ⟨sgS, z5, _, rfl, rfl, z50, by omega, by rw [sg_len]; exact z51, Array.getElem?_eq_getElem hz5, _, Nat.le_refl _, lo_one (lo_dec (by decide +kernel)) hz5, rfl, w5, k4.trans k5⟩
      · rintro σ5 H5 ⟨sg2, hs2, ho2, rfl, w5, k5⟩
        refine ⟨.ref a, rfl, a, c, 2, rfl, by decide, by decide, w5, fun H6 gn gn0 gn1 w6 k6 => ?_⟩
        have c1 := cutS_length t none (some at_)
        have c2 := cutS_length t (some (at_ + gn)) none
        refine ⟨.str t, rfl, .int at_, rfl, at_, rfl, t, rfl, hts, .str sg2, rfl, _, sg2, rfl, rfl, ?_, .str t, rfl, .int at_, rfl, .int gn, rfl, at_, gn, rfl, rfl, at_ + gn, rfl, t, rfl, hts, _, _, rfl, rfl, ?_, q H6 _ ?_ (lo_app (lo_app (lo_cut hlo _ _) ho2) (lo_cut hlo _ _)) w6 (k5.trans k6)⟩
        · rw [sizeLine_eq]
          omega
        · rw [app_len, sizeLine_eq]
          omega
        · rw [app_len, app_len]
          omega
    · have hne : Txt.split t "; " ≠ [] := split_ne (by decide +kernel) (by decide +kernel)
      have hle := PyProof.Rows.split_le t "; "
      have htot := split_tot t "; "
      obtain ⟨S, hS⟩ : ∃ S, S = Txt.split t "; " := ⟨_, rfl⟩
      have s2l : ("; " : Str).length = 2 := by decide +kernel
      have hSo : ∀ p ∈ S, Lo p := by
        rw [hS]
        exact lo_split hlo
      have l2o : Lo "; " := lo_dec (by decide +kernel)
      have l1o : Lo " " := lo_dec (by decide +kernel)
      have s1l : (" " : Str).length = 1 := by decide +kernel
      refine ⟨.str t, rfl, ⟨_, rfl⟩, t, "; ", rfl, rfl, by decide +kernel, by rw [sizeLine_eq]; omega, fun L hL => ?_⟩
      rw [← hS] at hne hle htot ⊢
      have hSl : 1 ≤ S.length := by
        cases S with
        | nil => exact absurd rfl hne
        | cons x l => rw [List.length_cons]; omega
      have sL := same_new (o := .lst (S.map V.str)) hL
      obtain ⟨nLa, nLc⟩ := w1.ne_new hL
      have w2 := w1.same sL
      have k2 : Kp a c H (upd H1 L (.lst (S.map V.str))) := k1.trans (Same.kp sL)
      have elen : (((S.map V.str).length : Nat) : Int) = S.length := by rw [List.length_map]
      refine ⟨.ref a, rfl, .ref L, rfl, L, _, rfl, .inl (.inl (.inl upd_same)), a, c, _, rfl, by omega, by omega, w2, fun H3 at_ at0 at1 w3 k3 => ?_⟩
      have eL3 := k3 _ _ nLa nLc upd_same
      refine ⟨.ref a, rfl, .ref L, rfl, L, _, rfl, .inl (.inl (.inl eL3)), _, 1, rfl, rfl, a, c, _, rfl, by omega, by omega, w3, fun H4 to_ to0 to1 w4 k4 => ?_⟩
      have eL := k4 _ _ nLa nLc eL3
      have kH : Kp a c H H4 := (k2.trans k3).trans k4
      rw [elen] at at1
      obtain ⟨pa, hpa, hat⟩ := at_str (ys := S) at0 at1
      have hpal := Nat.le_trans (tot_mem hpa) htot
      have SL : ∀ {Hx : Hp}, Hx L = some (.lst (S.map V.str)) → SqL K Hx L (S.map V.str) := fun e => .inl (.inl e)
      -- two cuts of the list, put one behind the other
      have joined : ∀ {ys : List Str}, ys.length ≤ 3 * t.length + 100 → tot ys ≤ 3 * t.length + 4000 → (ys.map (·.length)).sum + ys.length * ("; " : Str).length ≤ 16777216 ∧ (Txt.join "; " ys).length ≤ tot ys + 2 * ys.length := fun {ys} h1 h2 => by
        have h3 := join_len "; " ys
        rw [s2l] at h3 ⊢
        have h4 : (ys.map (·.length)).sum = tot ys := rfl
        rw [h4]
        constructor <;> omega
      refine ⟨.int wy, rfl, rfl, _, rfl, ite2 (fun _ => ?_) (fun _ => ?_)⟩
      · refine ⟨⟨_, rfl⟩, .ref L, rfl, .int at_, rfl, at_, rfl, L, _, rfl, SL eL, fun A1 hA1 => ?_⟩
        obtain ⟨z1, ez1, lz1, tz1, iz1⟩ := cut_strs S none (some at_)
        rw [ez1]
        have s1 := same_new (o := .lst (z1.map V.str)) hA1
        refine ⟨.ref L, rfl, .int at_, rfl, at_, 1, rfl, rfl, at_ + 1, rfl, L, _, rfl, SL (s1 _ _ eL), fun A2 hA2 => ?_⟩
        obtain ⟨z2, ez2, lz2, tz2, iz2⟩ := cut_strs S (some (at_ + 1)) none
        rw [ez2]
        have s2 := same_new (o := .lst (z2.map V.str)) hA2
        refine ⟨A1, A2, _, _, rfl, rfl, s2 _ _ upd_same, upd_same, by rw [List.length_map, List.length_map, sizeLine_eq]; omega, fun A3 hA3 => ?_⟩
        rw [← List.map_append]
        have s3 := same_new (o := .lst ((z1 ++ z2).map V.str)) hA3
        have ta := tot_append z1 z2
        have la := List.length_append (as := z1) (bs := z2)
        obtain ⟨j1, j2⟩ := joined (ys := z1 ++ z2) (by omega) (by omega)
        exact ⟨"; ", A3, z1 ++ z2, rfl, rfl, .inl (.inl (.inl upd_same)), j1, q _ _ (by omega) (lo_join l2o fun p hp => hSo p ((List.mem_append.mp hp).elim (iz1 p) (iz2 p))) (w4.same (s1.trans (s2.trans s3))) (kH.trans (Same.kp (s1.trans (s2.trans s3))))⟩
      refine ⟨.int wy, rfl, rfl, _, rfl, ite2 (fun _ => ?_) (fun _ => ?_)⟩
      · refine ⟨⟨_, rfl⟩, .ref L, rfl, .int to_, rfl, to_, rfl, L, _, rfl, SL eL, fun A1 hA1 => ?_⟩
        obtain ⟨z1, ez1, lz1, tz1, iz1⟩ := cut_strs S none (some to_)
        rw [ez1]
        have s1 := same_new (o := .lst (z1.map V.str)) hA1
        refine ⟨.ref L, rfl, .int at_, rfl, L, _, at_, .str pa, rfl, rfl, SL (s1 _ _ eL), hat, (by show 1 ≤ sizeLine; decide), fun A0 hA0 => ?_⟩
        have s0 := same_new (o := .lst [.str pa]) hA0
        refine ⟨A1, A0, _, _, rfl, rfl, s0 _ _ upd_same, upd_same, by rw [List.length_map, sizeLine_eq]; show z1.length + 1 ≤ _; omega, fun A5 hA5 => ?_⟩
        have e5 : z1.map V.str ++ [V.str pa] = (z1 ++ [pa]).map V.str := by rw [List.map_append]; rfl
        rw [e5]
        have s5 := same_new (o := .lst ((z1 ++ [pa]).map V.str)) hA5
        refine ⟨.ref L, rfl, .int to_, rfl, to_, rfl, L, _, rfl, SL (s5 _ _ (s0 _ _ (s1 _ _ eL))), fun A2 hA2 => ?_⟩
        obtain ⟨z2, ez2, lz2, tz2, iz2⟩ := cut_strs S (some to_) none
        rw [ez2]
        have s2 := same_new (o := .lst (z2.map V.str)) hA2
        have ta := tot_append (z1 ++ [pa]) z2
        have tb := tot_append z1 [pa]
        have tc : tot [pa] = pa.length := by rw [tot_cons]; rfl
        have la := List.length_append (as := z1 ++ [pa]) (bs := z2)
        have lb : (z1 ++ [pa]).length = z1.length + 1 := by rw [List.length_append]; rfl
        refine ⟨A5, A2, _, _, rfl, rfl, s2 _ _ upd_same, upd_same, by rw [List.length_map, List.length_map, sizeLine_eq]; omega, fun A3 hA3 => ?_⟩
        rw [← List.map_append]
        have s3 := same_new (o := .lst (((z1 ++ [pa]) ++ z2).map V.str)) hA3
        have sA := s1.trans (s0.trans (s5.trans (s2.trans s3)))
        obtain ⟨j1, j2⟩ := joined (ys := (z1 ++ [pa]) ++ z2) (by omega) (by omega)
        exact ⟨"; ", A3, (z1 ++ [pa]) ++ z2, rfl, rfl, .inl (.inl (.inl upd_same)), j1, q _ _ (by omega) (lo_join l2o fun p hp => by
          rcases List.mem_append.mp hp with hp | hp
          · rcases List.mem_append.mp hp with hp | hp
            · exact hSo p (iz1 p hp)
            · rw [List.mem_singleton.mp hp]
              exact hSo pa hpa
          · exact hSo p (iz2 p hp)) (w4.same sA) (kH.trans (Same.kp sA))⟩
      refine ⟨.int wy, rfl, rfl, _, rfl, ite2 (fun _ => ?_) (fun _ => ?_)⟩
      · refine ⟨⟨_, rfl⟩, .ref L, rfl, 1, rfl, L, _, rfl, SL eL, fun A1 hA1 => ?_⟩
        obtain ⟨z1, ez1, lz1, tz1, iz1⟩ := cut_strs S none (some 1)
        rw [ez1]
        have s1 := same_new (o := .lst (z1.map V.str)) hA1
        obtain ⟨m1, m2⟩ := w4.ne_new hA1
        refine ⟨(by show 1 ≤ sizeLine; decide), fun A0 hA0 => ?_⟩
        have s0 := same_new (o := .lst [.str "one"]) hA0
        obtain ⟨m3, m4⟩ := (w4.same s1).ne_new hA0
        refine ⟨.ref a, rfl, a, c, 9, rfl, by decide, by decide, w4.same (s1.trans s0), fun H6 nn nn0 nn1 w6 k6 => ?_⟩
        have eA0 := k6 _ _ m3 m4 upd_same
        have eA1 := k6 _ _ m1 m2 (s0 _ _ upd_same)
        have eL6 := k6 _ _ nLa nLc (s0 _ _ (s1 _ _ eL))
        refine ⟨A0, nn, _, rfl, rfl, eA0, by omega, by omega, by show 1 * nn.toNat ≤ _; rw [sizeLine_eq]; omega, fun A5 hA5 => ?_⟩
        have er : (List.replicate nn.toNat [V.str "one"]).flatten = (List.replicate nn.toNat (Str.ofString "one")).map V.str := by
          generalize nn.toNat = n
          induction n with
          | zero => rfl
          | succ n ih => rw [List.replicate_succ, List.flatten_cons, ih, List.replicate_succ]; rfl
        rw [er]
        have s5 := same_new (o := .lst ((List.replicate nn.toNat (Str.ofString "one")).map V.str)) hA5
        have lr : (List.replicate nn.toNat (Str.ofString "one")).length = nn.toNat := List.length_replicate
        have tr : tot (List.replicate nn.toNat (Str.ofString "one")) = nn.toNat * 3 := by
          unfold tot
          rw [List.map_replicate, List.sum_replicate_nat]
          rfl
        refine ⟨A1, A5, _, _, rfl, rfl, s5 _ _ eA1, upd_same, by rw [List.length_map, List.length_map, sizeLine_eq]; omega, fun A6 hA6 => ?_⟩
        rw [← List.map_append]
        have s6 := same_new (o := .lst ((z1 ++ List.replicate nn.toNat (Str.ofString "one")).map V.str)) hA6
        refine ⟨.ref L, rfl, 1, rfl, L, _, rfl, SL (s6 _ _ (s5 _ _ eL6)), fun A2 hA2 => ?_⟩
        obtain ⟨z2, ez2, lz2, tz2, iz2⟩ := cut_strs S (some 1) none
        rw [ez2]
        have s2 := same_new (o := .lst (z2.map V.str)) hA2
        have ta := tot_append (z1 ++ List.replicate nn.toNat (Str.ofString "one")) z2
        have tb := tot_append z1 (List.replicate nn.toNat (Str.ofString "one"))
        have la := List.length_append (as := z1 ++ List.replicate nn.toNat (Str.ofString "one")) (bs := z2)
        have lb := List.length_append (as := z1) (bs := List.replicate nn.toNat (Str.ofString "one"))
        refine ⟨A6, A2, _, _, rfl, rfl, s2 _ _ upd_same, upd_same, by rw [List.length_map, List.length_map, sizeLine_eq]; omega, fun A3 hA3 => ?_⟩
        rw [← List.map_append]
        have s3 := same_new (o := .lst (((z1 ++ List.replicate nn.toNat (Str.ofString "one")) ++ z2).map V.str)) hA3
        have sA := s5.trans (s6.trans (s2.trans s3))
        obtain ⟨j1, j2⟩ := joined (ys := (z1 ++ List.replicate nn.toNat (Str.ofString "one")) ++ z2) (by omega) (by omega)
        exact ⟨"; ", A3, (z1 ++ List.replicate nn.toNat (Str.ofString "one")) ++ z2, rfl, rfl, .inl (.inl (.inl upd_same)), j1, q _ _ (by omega) (lo_join l2o fun p hp => by
          rcases List.mem_append.mp hp with hp | hp
          · rcases List.mem_append.mp hp with hp | hp
            · exact hSo p (iz1 p hp)
            · rw [(List.mem_replicate.mp hp).2]
              exact lo_dec (by decide +kernel)
          · exact hSo p (iz2 p hp)) (w6.same sA) ((kH.trans (Same.kp (s1.trans s0))).trans (k6.trans (Same.kp sA)))⟩
      refine ⟨.int wy, rfl, rfl, _, rfl, ite2 (fun _ => ?_) (fun _ => ?_)⟩
      · refine ⟨(by show 6 ≤ sizeLine; decide), fun B hB => ?_⟩
        have sB := same_new (o := .lst (([";", " ; ", ";  ", ", ", ";\n", "; ; "] : List Str).map V.str)) hB
        obtain ⟨m1, m2⟩ := w4.ne_new hB
        refine ⟨.ref a, rfl, a, c, 6, rfl, by decide, by decide, w4.same sB, fun H6 bz bz0 bz1 w6 k6 => ?_⟩
        obtain ⟨bt, hbt, hbat⟩ := at_str (ys := [";", " ; ", ";  ", ", ", ";\n", "; ; "]) bz0 (by show bz < 6; exact bz1)
        have hbl : bt.length ≤ 4 := by
          have key : ∀ x ∈ ([";", " ; ", ";  ", ", ", ";\n", "; ; "] : List Str), x.length ≤ 4 := by decide +kernel
          exact key bt hbt
        have hbo : Lo bt := by
          have key : ∀ x ∈ ([";", " ; ", ";  ", ", ", ";\n", "; ; "] : List Str), (x.cps.toList.all fun c => decide (c < 16 ^ 8)) = true := by decide +kernel
          exact lo_dec (key bt hbt)
        have eL6 := k6 _ _ nLa nLc (sB _ _ eL)
        refine ⟨B, _, bz, .str bt, rfl, rfl, .inl (.inl (k6 _ _ m1 m2 upd_same)), hbat, ?_⟩
        refine ⟨⟨_, rfl⟩, .ref L, rfl, .int at_, rfl, at_, rfl, L, _, rfl, SL eL6, fun A1 hA1 => ?_⟩
        obtain ⟨z1, ez1, lz1, tz1, iz1⟩ := cut_strs S none (some at_)
        rw [ez1]
        have s1 := same_new (o := .lst (z1.map V.str)) hA1
        obtain ⟨j1, j2⟩ := joined (ys := z1) (by omega) (by omega)
        refine ⟨"; ", A1, z1, rfl, rfl, .inl (.inl (.inl upd_same)), j1, .str bt, rfl, _, bt, rfl, rfl, by rw [sizeLine_eq]; omega, ?_⟩
        refine ⟨⟨_, rfl⟩, .ref L, rfl, .int at_, rfl, at_, rfl, L, _, rfl, SL (s1 _ _ eL6), fun A2 hA2 => ?_⟩
        obtain ⟨z2, ez2, lz2, tz2, iz2⟩ := cut_strs S (some at_) none
        rw [ez2]
        have s2 := same_new (o := .lst (z2.map V.str)) hA2
        obtain ⟨j3, j4⟩ := joined (ys := z2) (by omega) (by omega)
        refine ⟨"; ", A2, z2, rfl, rfl, .inl (.inl (.inl upd_same)), j3, _, _, rfl, rfl, by rw [app_len, sizeLine_eq]; omega, q _ _ (by rw [app_len, app_len]; omega) (lo_app (lo_app (lo_join l2o fun p hp => hSo p (iz1 p hp)) hbo) (lo_join l2o fun p hp => hSo p (iz2 p hp))) (w6.same (s1.trans s2)) ((kH.trans (Same.kp sB)).trans (k6.trans (Same.kp (s1.trans s2))))⟩
      -- a word exchanged
      have hle2 := PyProof.Rows.split_le pa " "
      have htot2 := split_tot pa " "
      have hne2 : Txt.split pa " " ≠ [] := split_ne (by decide +kernel) (by decide +kernel)
      obtain ⟨W, hW⟩ : ∃ W, W = Txt.split pa " " := ⟨_, rfl⟩
      have hWo : ∀ p ∈ W, Lo p := by
        rw [hW]
        exact lo_split (hSo pa hpa)
      refine ⟨.ref L, rfl, .int at_, rfl, L, _, at_, .str pa, rfl, rfl, SL eL, hat, ⟨_, rfl⟩, pa, " ", rfl, rfl, by decide +kernel, by rw [sizeLine_eq]; omega, fun L2 hL2 => ?_⟩
      rw [← hW] at hle2 htot2 hne2 ⊢
      have hWl : 1 ≤ W.length := by
        cases W with
        | nil => exact absurd rfl hne2
        | cons x l => rw [List.length_cons]; omega
      have sL2 := same_new (o := .lst (W.map V.str)) hL2
      obtain ⟨nL2a, nL2c⟩ := w4.ne_new hL2
      have nLL2 : L ≠ L2 := ne_of_none eL hL2
      have w5 := w4.same sL2
      have elenW : (((W.map V.str).length : Nat) : Int) = W.length := by rw [List.length_map]
      refine ⟨.ref a, rfl, .ref L2, rfl, L2, _, rfl, .inl (.inl (.inl upd_same)), a, c, _, rfl, by omega, by omega, w5, fun H6 sp sp0 sp1 w6 k6 => ?_⟩
      rw [elenW] at sp1
      have eL2 := k6 _ _ nL2a nL2c upd_same
      have eL6 := k6 _ _ nLa nLc (sL2 _ _ eL)
      refine ⟨(by show 18 ≤ sizeLine; decide), fun O1 hO1 => ?_⟩
      have sO1 := same_new (o := .lst ((["", "0", "00", "01", "-1", "+1", "1_0", "10", "11", "12", "3", "in", "out", "add", "Add", "none", "nop", "x"] : List Str).map V.str)) hO1
      have hO1l : ∀ x ∈ (["", "0", "00", "01", "-1", "+1", "1_0", "10", "11", "12", "3", "in", "out", "add", "Add", "none", "nop", "x"] : List Str), x.length ≤ 1800 := by decide +kernel
      have hO1o : ∀ x ∈ (["", "0", "00", "01", "-1", "+1", "1_0", "10", "11", "12", "3", "in", "out", "add", "Add", "none", "nop", "x"] : List Str), (x.cps.toList.all fun c => decide (c < 16 ^ 8)) = true := by decide +kernel
      refine ⟨.ref O1, rfl, 60, rfl, rfl, .inl rfl, fun z1 hz1 hy1 => ⟨1800, rfl, rfl, .inr rfl, fun z2 hz2 hy2 => ⟨(by show 8 ≤ sizeLine; decide), fun O2 hO2 => ?_⟩⟩⟩
      have sO2 := same_new (o := .lst ((["not", "twice", z1, z2, "1.0", "one", "all", "0x1"] : List Str).map V.str)) hO2
      refine ⟨O1, O2, (["", "0", "00", "01", "-1", "+1", "1_0", "10", "11", "12", "3", "in", "out", "add", "Add", "none", "nop", "x"] : List Str).map V.str, (["not", "twice", z1, z2, "1.0", "one", "all", "0x1"] : List Str).map V.str, rfl, rfl, sO2 _ _ upd_same, upd_same, by rw [List.length_map, List.length_map, sizeLine_eq]; show 18 + 8 ≤ 16777216; decide, fun O3 hO3 => ?_⟩
      rw [← List.map_append]
      obtain ⟨OD, hOD⟩ : ∃ OD, OD = (["", "0", "00", "01", "-1", "+1", "1_0", "10", "11", "12", "3", "in", "out", "add", "Add", "none", "nop", "x"] : List Str) ++ (["not", "twice", z1, z2, "1.0", "one", "all", "0x1"] : List Str) := ⟨_, rfl⟩
      rw [← hOD]
      have lOD : OD.length = 26 := by rw [hOD]; rfl
      have bOD : ∀ x ∈ OD, x.length ≤ 1800 := by
        intro x hx
        rw [hOD] at hx
        rcases List.mem_append.mp hx with hx | hx
        · exact hO1l x hx
        · simp only [List.mem_cons, List.not_mem_nil, or_false] at hx
          rcases hx with rfl | rfl | rfl | rfl | rfl | rfl | rfl | rfl
          · decide +kernel
          · decide +kernel
          · exact hz1
          · exact hz2
          · decide +kernel
          · decide +kernel
          · decide +kernel
          · decide +kernel
      have oOD : ∀ x ∈ OD, Lo x := by
        intro x hx
        rw [hOD] at hx
        rcases List.mem_append.mp hx with hx | hx
        · exact lo_dec (hO1o x hx)
        · simp only [List.mem_cons, List.not_mem_nil, or_false] at hx
          rcases hx with rfl | rfl | rfl | rfl | rfl | rfl | rfl | rfl
          · exact lo_dec (by decide +kernel)
          · exact lo_dec (by decide +kernel)
          · exact hy1
          · exact hy2
          · exact lo_dec (by decide +kernel)
          · exact lo_dec (by decide +kernel)
          · exact lo_dec (by decide +kernel)
          · exact lo_dec (by decide +kernel)
      have sO3 := same_new (o := .lst (OD.map V.str)) hO3
      have sO := sO1.trans (sO2.trans sO3)
      have w7 := w6.same sO
      have nO3 := (w6.same (sO1.trans sO2)).ne_new hO3
      refine ⟨.ref O3, rfl, .ref a, rfl, a, c, 26, rfl, by decide, by decide, w7, fun H8 oz oz0 oz1 w8 k8 => ?_⟩
      obtain ⟨od, hod, hodat⟩ := at_str (ys := OD) oz0 (by rw [lOD]; exact oz1)
      have hodl := bOD od hod
      have hodo := oOD od hod
      have eO8 := k8 _ _ nO3.1 nO3.2 upd_same
      have eL28 := k8 _ _ nL2a nL2c (sO _ _ eL2)
      have eL8 := k8 _ _ nLa nLc (sO _ _ eL6)
      have ix1 : ixN (W.map V.str).length sp = some sp.toNat := by
        unfold ixN
        rw [if_pos sp0, if_pos (by rw [List.length_map]; exact sp1)]
      refine ⟨O3, _, oz, .str od, rfl, rfl, .inl (.inl eO8), hodat, .ref L2, rfl, .int sp, rfl, L2, _, sp, sp.toNat, rfl, rfl, eL28, ix1, ?_⟩
      have eset : (W.map V.str).set sp.toNat (.str od) = (W.set sp.toNat od).map V.str := (List.map_set).symm
      rw [eset]
      have tW := tot_set od W sp.toNat
      have lW : (W.set sp.toNat od).length = W.length := List.length_set
      have jl := join_len " " (W.set sp.toNat od)
      rw [s1l, lW] at jl
      have ix2 : ixN (S.map V.str).length at_ = some at_.toNat := by
        unfold ixN
        rw [if_pos at0, if_pos (by rw [List.length_map]; exact at1)]
      refine ⟨⟨_, rfl⟩, .ref L2, rfl, " ", L2, W.set sp.toNat od, rfl, rfl, .inl (.inl (.inl upd_same)), ?_, .ref L, rfl, .int at_, rfl, L, _, at_, at_.toNat, rfl, rfl, by rw [upd_ne nLL2]; exact eL8, ix2, ?_⟩
      · rw [s1l, lW]
        show tot (W.set sp.toNat od) + _ ≤ _
        omega
      obtain ⟨jt, hjt⟩ : ∃ jt, jt = Txt.join " " (W.set sp.toNat od) := ⟨_, rfl⟩
      have jto : Lo jt := by
        rw [hjt]
        refine lo_join l1o fun p hp => ?_
        rcases List.mem_or_eq_of_mem_set hp with hp | rfl
        · exact hWo p hp
        · exact hodo
      rw [← hjt] at jl ⊢
      have eset2 : (S.map V.str).set at_.toNat (.str jt) = (S.set at_.toNat jt).map V.str := (List.map_set).symm
      rw [eset2]
      have tS := tot_set jt S at_.toNat
      have lS : (S.set at_.toNat jt).length = S.length := List.length_set
      obtain ⟨j1, j2⟩ := joined (ys := S.set at_.toNat jt) (by omega) (by omega)
      refine ⟨⟨_, rfl⟩, .ref L, rfl, "; ", L, S.set at_.toNat jt, rfl, rfl, .inl (.inl (.inl upd_same)), j1, q _ _ (by omega) (lo_join l2o fun p hp => (List.mem_or_eq_of_mem_set hp).elim (hSo p) (fun e => by rw [e]; exact jto)) ?_ ?_⟩
      · exact (w8.upd nL2a nL2c).upd nLa nLc
      · intro b u n1 n2 e
        have e4 := kH b u n1 n2 e
        have nbL2 : b ≠ L2 := ne_of_none e4 hL2
        have nbL : b ≠ L := by
          intro z
          have z1 := k1 b u n1 n2 e
          rw [z, hL] at z1
          cases z1
        rw [upd_ne nbL, upd_ne nbL2]
        exact k8 b u n1 n2 (sO _ _ (k6 b u n1 n2 (sL2 _ _ e4)))
/-! ### defs in which data is shown: the guards are known -/
structure FnG (P : Program) (w : World) (K : PySem.W.Frag) (mg : Str → Option Value) (base : Heap) (k : Nat) (f : Addr) (fd : FuncData) (ps : List Str) (sp : Sp) : Prop where
  len : ∀ vs H Q E, sp vs H Q E → vs.length = ps.length
  run : ∀ (A : Around) (outer : List Env) (s : Shared) (H : Hp) (args : Args) (us : List Value) (vs : List V) (Q : VK) (E : XK), Room k A → A.guards = some [] → Env0 P w K mg base A outer s H → BindsTo s fd args (ps.zip us) → Vals vs us → sp vs H Q E →
    codeAny (model P w) A (.call (.ref f) args) (CR CX0 outer P w H s Q E) s
theorem fun_okG {x qual : Str} {st : Stmt} {f : Addr} {fd : FuncData} {N ps : List Str} {k : Nat} {sp : Sp} (F : Fun K x qual st f fd) (S : FnScope N ps (defScope st)) (len : ∀ vs H Q E, sp vs H Q E → vs.length = ps.length)
    (hbody : ∀ (cdv : Value) (A : Around) (outer : List Env) (s : Shared) (H : Hp) (vs : List V) (Q : VK) (E : XK), Room k (A.deeper (envOfC qual (defScope st) s.heap.objs.size f cdv)) → (A.deeper (envOfC qual (defScope st) s.heap.objs.size f cdv)).guards = some [] → sp vs H Q E →
      ∃ t, PSs (cxOf CX0 P w K mg base N qual (defScope st) f cdv A outer s H E).nox (defBody st) t ∧ t { nx := fun _ H' => Q .non H', rt := Q } (start N vs) H) : FnG P w K mg base (k + 1) f fd ps sp :=
  ⟨len, fun A outer s H args us vs Q E hr hg e0 hb r hs => fn_at F S hr e0 hb r (len _ _ _ _ hs) fun cdv => hbody cdv A outer s H vs Q E (Room.deeper hr _) hg hs⟩
section
variable {X : Cx} {k : Nat} {f : Addr} {fd : FuncData} {ps : List Str} {sp : Sp} {x : Str} {p pos : Pos} {e : Expr} {es : List Expr} {t : TA}
theorem run_fnG {pins : List (Addr × Obj)} {σ : L2.St} {H : Hp} {s : Shared} {Q : VK} {us : List Value} {vs : List V} (F : FnG X.prog X.w X.K X.mg X.base k f fd ps sp) (hr : Room k X.A) (hgd : X.A.guards = some []) (hb : Binds X.K fd ps [])
    (I : Inv X pins σ H s) (r : Vals vs us) (h : sp vs H Q E0) : wpAny (model X.prog X.w) X.A (call (.ref f) us) (EP X pins σ Q) X.xe s := by
  have hl : us.length = ps.length := by rw [← r.length]; exact F.len _ _ _ _ h
  have b := hb s us I.kIn (by rw [List.append_nil]; exact hl)
  rw [List.append_nil] at b
  refine wpAny_call (codeAny_mono (F.run X.A X.stack s H ⟨us, []⟩ us vs Q E0 hr hgd I.env0 b r h) fun r s' hq => ?_)
  cases r with
  | error e => exact False.elim hq
  | ok fl =>
    cases fl with
    | ret u => exact I.after hq
    | next => exact False.elim hq
    | brk => exact False.elim hq
    | cont => exact False.elim hq
theorem pe_callG (F : FnG X.prog X.w X.K X.mg X.base k f fd ps sp) (hr : Room k X.A) (hgd : X.A.guards = some []) (hg : Gl X x) (hm : X.mg x = some (.ref f)) (hk : PySem.W.keepIn X.K (.ref f) = true) (hb : Binds X.K fd ps [])
    (ha : PA X (e :: es) t) (hdb : (x == ("__debug__" : Str)) = false := by decide) (he : starEach (e :: es) X.env = (false, eval e X.env) :: starEach es X.env := by rfl) (hpl : (backTo pos (starEach es X.env)).any (·.1) = false := by rfl) :
    PE X (.Call (.Name x p) (e :: es) [] pos) (tCallS sp (fun _ => E0) t) := by
  refine ⟨fun pins s σ H Q I h => ?_⟩
  refine wpAny_Call_Name_kw (ld_glob I hg hm ?_ hdb)
  refine PySem.W.callWith_K (h₀ := X.base) I.ok.mod.kin hk (thn (ha.run pos pins s σ H _ I h) fun us s1 ⟨vs, H1, I1, r, q⟩ => ⟨I1.kIn, ?_⟩) he hpl
  exact run_fnG F hr hgd hb I1 r q
end
/-- a statement that is never reached -/
theorem pss_never {X : Cx} {l : List Stmt} : PSs X l (fun _ _ _ => False) := ⟨fun _ _ _ _ _ _ h => h.elim⟩
theorem fn_or {CX : CXT} {k : Nat} {f : Addr} {fd : FuncData} {ps : List Str} {sp sp2 : Sp} (a : FnOk P w K mg base CX k f fd ps sp) (b : FnOk P w K mg base CX k f fd ps sp2) : FnOk P w K mg base CX k f fd ps (fun vs H Q E => sp vs H Q E ∨ sp2 vs H Q E) :=
  ⟨fun vs H Q E h => h.elim (a.len vs H Q E) (b.len vs H Q E), fun A outer s H args us vs Q E hr e0 hb r h => h.elim (a.run A outer s H args us vs Q E hr e0 hb r) (b.run A outer s H args us vs Q E hr e0 hb r)⟩
/-! ### what is no text, read -/
def NoStr (K : PySem.W.Frag) (H : Hp) (v : V) : Prop := ∃ ty : String, TyX K H v (.type ty) ∧ kitB ty "str" = some false
def spRq (K : PySem.W.Frag) (cN : Addr) : Sp := fun vs H _ E => ∃ v, vs = [v] ∧ NoStr K H v ∧ E (.ref cN) none H
theorem ok_rq {f cN : Addr} {fd : FuncData} {k : Nat} (F : Fun K "read_row" "read_row" s_read_row f fd) (rN : Rai K mg "NoText" cN) (mi : mg "isinstance" = none) (mS : mg "str" = none) :
    FnOk P w K mg base (L2.CX P w) (k + 1) f fd ["text"] (spRq K cN) := by
  refine F.okX sc_read_row (fun vs H Q E h => ?_) (fun cdv A outer s H vs Q E hr h => ?_)
  · obtain ⟨v, rfl, _⟩ := h
    rfl
  · obtain ⟨v, rfl, ⟨ty, ht, hk⟩, q⟩ := h
    refine ⟨_, pss_cons (ps_if (pt_not (pt_val (pe_callB call_isi (by rfl) mi (by decide +kernel) (pa_cons (pv 0) (pa_cons (pe_bltn (v := .ty "str") (by rfl) mS (by decide +kernel) rfl) pa_nil)))))
        (pss_one (ps_raise rfl (takes_of rfl rfl rfl rfl) (SkE.pmk_own1 PySem.F.excBase_ValueError rN.q rN.g rN.k (raises_own rN.s rN.t) (by rfl) pe_str))) pss_nil) pss_never, ?_⟩
    exact ⟨v, rfl, v, .ty "str", .type ty, .type "str", false, rfl, .ty "str", ht, kit_ty hk, false, rfl, q⟩
structure KG (K : PySem.W.Frag) (mg : Str → Option Value) (cW cT n1 n2 n3 n4 n5 n6 : Addr) : Prop where
  gW : mg "WideError" = some (.ref cW)
  gT : mg "NoText" = some (.ref cT)
  g1 : mg "NoName" = some (.ref n1)
  g2 : mg "NoPair" = some (.ref n2)
  g3 : mg "NoRow" = some (.ref n3)
  g4 : mg "NoRule" = some (.ref n4)
  g5 : mg "Nothing" = some (.ref n5)
  g6 : mg "TooMany" = some (.ref n6)
  xT : ExcC K cT
  mT : PySem.W.exmOne K (.ref cT) (.ref cW) = some true
  aT : PySem.W.kitAny K (.ref cT) [.ref n1, .ref n2, .ref n3, .ref n4, .ref n5, .ref n6] = some false
  vT : PySem.W.kitOne K (.ref cT) (.type "ValueError") = some true
  tt : PySem.W.kitOne K (.ref cT) (.ref cT) = some true
def spRf (K : PySem.W.Frag) : Sp := fun vs H Q _ => ∃ (v : V) (d : PyData), vs = [v] ∧ (∀ (X : Cx) (H' : Hp), Same H H' → Rz X H' v d ∨ (Dp X.K H' v d ∧ d.hasDict = false)) ∧ d.showable = true ∧ d.depth ≤ 40 ∧ d.shown.length ≤ sizeLine ∧
  ((∃ t : Str, v = .str t ∧ t.length ≤ 90000 ∧ readS t = none) ∨ NoStr K H v) ∧ ∀ H', Same H H' → Q (.bl true) H'
abbrev spRx (K : PySem.W.Frag) (cN : Addr) : Sp := fun vs H Q E => spRr cN vs H Q E ∨ spRq K cN vs H Q E
theorem ok_rf {f fR cW cT n1 n2 n3 n4 n5 n6 : Addr} {fd fdR : FuncData} {k : Nat} (F : Fun K "_law_refused" "_law_refused" s_law_refused f fd) (X : KG K mg cW cT n1 n2 n3 n4 n5 n6)
    (GR : FnOk P w K mg base (L2.CX P w) (k + 6) fR fdR ["text"] (spRx K cT)) (kR : PySem.W.keepIn K (.ref fR) = true) (bR : Binds K fdR ["text"] []) (gR : mg "read_row" = some (.ref fR))
    (mi : mg "isinstance" = none) (mp : mg "repr" = none) (mv : mg "ValueError" = none) : FnG P w K mg base (k + 7) f fd ["thing"] (spRf K) := by
  refine fun_okG F sc_law_refused (fun vs H Q E h => ?_) (fun cdv A outer s H vs Q E hr hg h => ?_)
  · obtain ⟨v, d, rfl, _⟩ := h
    rfl
  · obtain ⟨v, d, rfl, hz, h1, h2, h3, hbad, q⟩ := h
    refine ⟨_, pss_cons (ps_set (i := 1) sc_law_refused.nd rfl (.inl rfl) pe_non)
      (pss_cons (ps_set (i := 2) sc_law_refused.nd rfl (.inl rfl) (pe_callB (call_repr hg hr.units) (by rfl) mp (by decide +kernel) (pa_cons (pv 0) pa_nil)))
      (pss_mid (ps_try_asT (i := 3) (tb := fun W => tDrop (tCallS (spRx K cT) (WE W) (tCons (tVar 0) tNil))) (ts := fun _ _ _ => tAsg (tVar 3) (gName 1)) (Wout := fun _ _ _ _ => False) rfl rfl sc_law_refused.nd rfl rfl ⟨rfl, by decide, Or.inl X.gW⟩ takes0
          (fun W pn xe tk _ => pss_one (ps_expr (by exact (pe_callS GR hr rfl gR kR bR (fun σ => passAt tk σ) (by exact (pa_cons (pv 0) pa_nil))))))
          (fun a oe cls d pn hz hf => pss_one (ps_set (i := 1) sc_law_refused.nd rfl (Or.inl rfl) (pv 3))))
      (pss_cons (ps_if (pt_cmpR op_ne (pe_callB (call_repr hg hr.units) (by rfl) mp (by decide +kernel) (pa_cons (pv 0) pa_nil)) (pv 2) (nomark _)) (pss_one (ps_ret pe_bl)) pss_nil)
      (pss_cons (ps_if (pt_val (pe_callB call_isRT (by rfl) mi (by decide +kernel) (pa_cons (pv 1) (pa_cons (pe_tup (pa_cons (pe_glob (v := .ref n1) (by rfl) X.g1 rfl) (pa_cons (pe_glob (v := .ref n2) (by rfl) X.g2 rfl) (pa_cons (pe_glob (v := .ref n3) (by rfl) X.g3 rfl) (pa_cons (pe_glob (v := .ref n4) (by rfl) X.g4 rfl) (pa_cons (pe_glob (v := .ref n5) (by rfl) X.g5 rfl) (pa_cons (pe_glob (v := .ref n6) (by rfl) X.g6 rfl) pa_nil))))))) pa_nil)))) (pss_one (ps_ret pe_bl)) pss_nil)
      (pss_one (ps_ret (pe_and (pe_callB call_isR (by rfl) mi (by decide +kernel) (pa_cons (pv 1) (pa_cons (pe_glob (v := .ref cT) (by rfl) X.gT rfl) pa_nil)))
        (pe_one (pe_callB call_isR (by rfl) mi (by decide +kernel) (pa_cons (pv 1) (pa_cons (pe_bltn (v := .ty "ValueError") (by rfl) mv (by decide +kernel) rfl) pa_nil))))))))))), ?_⟩
    refine ⟨v, rfl, v, d, rfl, hz _ H (Same.refl H), h1, h2, h3, ?_⟩
    refine ⟨fun σ2 H2 => ∃ a, σ2 = [some v, some (.ref a), some (.str d.shown), none] ∧ Same H H2 ∧ H2 a = some (ExR (.ref cT) a), ?_, ?_⟩
    · have caught : ∀ H2, Same H H2 → wAsT K (.ref cW) 3 (fun _ _ _ => tAsg (tVar 3) (gName 1)) (fun _ _ _ _ => False) { nx := fun σ2 H2 => ∃ a, σ2 = [some v, some (.ref a), some (.str d.shown), none] ∧ Same H H2 ∧ H2 a = some (ExR (.ref cT) a), rt := Q } (.ref cT) none [some v, some .non, some (.str d.shown), none] H2 := fun H2 s2 =>
        ⟨true, X.mT, fun _ => ⟨rfl, fun a ha => ⟨.ref a, rfl, a, rfl, s2.trans (same_new ha), upd_same⟩⟩, fun z => Bool.noConfusion z⟩
      refine ⟨v, rfl, ?_⟩
      rcases hbad with ⟨t, rfl, ht, hn⟩ | hbad
      · exact .inl ⟨t, rfl, ht, (fun r hr' => by rw [hn] at hr'; cases hr'), fun _ H2 s2 => caught H2 s2⟩
      · exact .inr ⟨v, rfl, hbad, caught H (Same.refl H)⟩
    · rintro σ2 H2 ⟨a, rfl, s2, ea⟩
      refine ⟨v, rfl, v, d, rfl, hz _ H2 s2, h1, h2, h3, ?_⟩
      refine ⟨.str d.shown, rfl, rfl, _, rfl, iteNS rfl ?_⟩
      refine ⟨.ref a, rfl, (by show 6 ≤ sizeLine; decide), fun T hT => ?_⟩
      have sT := same_new (o := .tup [.ref n1, .ref n2, .ref n3, .ref n4, .ref n5, .ref n6]) hT
      have ea1 := sT _ _ ea
      refine ⟨a, cT, T, _, _, false, rfl, ea1, X.xT, upd_same, .cons (.own _) (.cons (.own _) (.cons (.own _) (.cons (.own _) (.cons (.own _) (.cons (.own _) .nil))))), X.aT, false, rfl, ?_⟩
      refine ⟨.ref a, rfl, a, cT, .ref cT, .ref cT, true, rfl, ea1, X.xT, .own _, X.tt, true, rfl, iteT ?_⟩
      exact ⟨.ref a, rfl, a, cT, .ty "ValueError", .type "ValueError", true, rfl, ea1, X.xT, .ty _, X.vT, q _ (s2.trans sT)⟩
/-! ### the law's own reading -/
def ln12 : List Str := (List.range 12).map fun (k : Nat) => iS (k : Int)
def lnO (w : Str) : Option Int := if w ∈ ln12 then numO w else none
theorem ln12_num {w : Str} (h : w ∈ ln12) : ∃ i : Int, numO w = some i ∧ 0 ≤ i ∧ i < 12 := by
  obtain ⟨k, hk, rfl⟩ := List.mem_map.mp h
  have := List.mem_range.mp hk
  exact ⟨k, numO_num (by omega) (by omega), by omega, by omega⟩
theorem num_ln12 {w : Str} {i : Int} (h : numO w = some i) (hi : i < 12) : w ∈ ln12 := by
  obtain ⟨h0, e⟩ := numO_text h
  rw [← e]
  exact List.mem_map.mpr ⟨i.toNat, List.mem_range.mpr (by omega), by rw [Int.toNat_of_nonneg h0]⟩
theorem lnO_some {w : Str} {i : Int} (h : lnO w = some i) : numO w = some i ∧ 0 ≤ i := by
  unfold lnO at h
  split at h
  · exact ⟨h, (numO_text h).1⟩
  · cases h
theorem lnO_of {w : Str} {i : Int} (h : numO w = some i) (hi : i < 12) : lnO w = some i := by
  unfold lnO
  rw [if_pos (num_ln12 h hi), h]
/-- too great for the law, or no number -/
def offB (m : Int) : Option Int → Bool
  | none => true
  | some i => decide (m ≤ i)
theorem off_num {m : Int} {w : Str} (hm : m ≤ 12) : offB m (lnO w) = !numB m (numO w) := by
  cases h : numB m (numO w) with
  | true =>
    obtain ⟨i, e, i0, i1⟩ := numB_some h
    rw [lnO_of e (by omega)]
    show decide (m ≤ i) = false
    exact decide_eq_false (by omega)
  | false =>
    cases e : lnO w with
    | none => rfl
    | some i =>
      obtain ⟨e2, i0⟩ := lnO_some e
      rw [e2] at h
      show decide (m ≤ i) = true
      apply decide_eq_true
      have h' : (decide (0 ≤ i) && decide (i < m)) = false := h
      rw [decide_eq_true i0, Bool.true_and] at h'
      have := of_decide_eq_false h'
      omega
theorem int_of_num {w : Str} {n : Int} (h : numO w = some n) : PySem.intText? w = some n ∧ w.length ≤ 19 := by
  unfold numO at h
  split at h
  · rename_i hk
    obtain ⟨h1, h2, h3, h4⟩ := numOk_parts hk
    have e := Option.some.inj h
    subst e
    have lz := TL.len_tl w
    exact ⟨PySem.intText_digits h3 (fun z' => by have : TL.tl w = [] := z'; rw [this] at h1; simp at h1) (by omega), by omega⟩
  · cases h
def spLn : Sp := fun vs H Q _ => ∃ w : Str, vs = [.str w] ∧ ∀ H', Same H H' → Q (oV (lnO w)) H'
theorem ok_ln {f : Addr} {fd : FuncData} {k : Nat} (F : Fun K "_law_number" "_law_number" s_law_number f fd) (mr : mg "range" = none) (mS : mg "str" = none) (mI : mg "int" = none) : FnOk P w K mg base CX0 (k + 1) f fd ["word"] spLn := by
  refine F.ok sc_law_number (fun vs H Q E h => ?_) (fun cdv A outer s H vs Q E hr h => ?_)
  · obtain ⟨w, rfl, _⟩ := h
    rfl
  · obtain ⟨z, rfl, q⟩ := h
    refine ⟨_, pss_cons (ps_if (pt_cmpR op_in_seq (pv 0) (pe_lc (own := [("k", 1)]) (g := gName 1) (by rfl) sc_law_number.nd (pi_range1 (by rfl) mr (pa_cons pe_int pa_nil)) (blkOk_by (own := [("k", 1)]) (N := N_law_number) (sc := defScope s_law_number) (by decide +kernel))
            (fun _ _ _ _ _ => pg_name (i := 1) sc_law_number.nd rfl (Or.inl rfl)) (fun _ _ _ _ _ => pts_nil) (fun _ _ _ _ _ => pe_callTy (r := rStrX) call_str_any (by rfl) mS (by decide +kernel) (pa_cons (pv 1) pa_nil))) (by rfl))
        (pss_one (ps_ret (pe_callTy call_int_str (by rfl) mI (by decide +kernel) (pa_cons (pv 0) pa_nil)))) pss_nil)
      (pss_one (ps_ret pe_non)), ?_⟩
    refine ⟨.str z, rfl, 12, rfl, by decide, by decide, fun C hC => ?_⟩
    have sC : ∀ o, Same H (upd H C o) := fun o => same_new hC
    refine lc_range (lo := 0) (n := 12) (fun i H4 => H4 = upd H C (.lst (((List.range i).map fun (k : Nat) => iS (k : Int)).map V.str))) rfl (fun i H4 hi h4 => ?_) (fun H4 h4 => ?_)
    · subst h4
      refine ⟨rfl, .int (0 + (i : Int)), rfl, .int (0 + (i : Int)), rfl, .inl ⟨_, rfl, small_log (by omega)⟩, _, upd_same, ?_, ?_⟩
      · rw [List.length_map, List.length_map, List.length_range]
        exact small1000 (by omega)
      · rw [upd_upd, List.range_succ, List.map_append, List.map_append]
        have : vS (.int (0 + (i : Int))) = iS (i : Int) := by
          show iS (0 + (i : Int)) = iS (i : Int)
          rw [Int.zero_add]
        rw [this]
        rfl
    · have eC : H4 C = some (.lst (ln12.map V.str)) := by rw [h4, upd_same]; rfl
      have s4 : Same H H4 := by rw [h4]; exact sC _
      have fl : (ln12.map V.str).all flatV = true := List.all_eq_true.mpr fun x hx => by
        obtain ⟨y, _, rfl⟩ := List.mem_map.mp hx
        rfl
      refine ⟨C, _, rfl, .inl (.inl (.inl eC)), rfl, fl, _, rfl, ?_⟩
      show if inV (.str z) (ln12.map V.str) = true then _ else _
      rw [inS]
      have q4 := q H4 s4
      unfold lnO at q4
      by_cases hm : z ∈ ln12
      · rw [decide_eq_true hm]
        rw [if_pos hm] at q4
        obtain ⟨i, e, _, _⟩ := ln12_num hm
        obtain ⟨e2, e3⟩ := int_of_num e
        rw [e] at q4
        exact ⟨.str z, rfl, z, i, rfl, e2, by omega, q4⟩
      · rw [decide_eq_false hm]
        rw [if_neg hm] at q4
        exact q4
def pO : List Str → Pt
  | [] => ("", [])
  | x :: r => (x, r.map numO)
theorem partO_pO (s : Str) : partO s = pO (Txt.split s " ") := by
  unfold partO pO
  cases Txt.split s " " <;> rfl
def prt (t : Str) : List (List Str) := (Txt.split t "; ").map fun s => Txt.split s " "
theorem partsO_prt (t : Str) : partsO t = (prt t).map pO := by
  unfold partsO prt
  rw [List.map_map]
  exact List.map_congr_left fun s _ => partO_pO s
abbrev WsAt (H : Hp) : List Addr → List (List Str) → Prop := Paired fun a ws => H a = some (.lst (ws.map V.str))
theorem stayWs {H H' : Hp} (s : Same H H') {as : List Addr} {W : List (List Str)} (h : WsAt H as W) : WsAt H' as W := awMap (fun a _ e => s a _ e) h
def oD : Option Int → PyData
  | some i => .int i
  | none => .none
theorem dp_opts {K : PySem.W.Frag} {H : Hp} : ∀ l : List (Option Int), DpAll K H (l.map oV) (l.map oD)
  | [] => .nil
  | none :: l => .cons .non (dp_opts l)
  | some i :: l => .cons (.int i) (dp_opts l)
theorem lay_opts : ∀ l : List (Option Int), PyData.canLayAll0 (l.map oD) = true ∧ PyData.depthAll (l.map oD) = 0
  | [] => ⟨by simp only [List.map_nil, PyData.canLayAll0], by simp only [List.map_nil, PyData.depthAll]⟩
  | none :: l => by
    obtain ⟨h1, h2⟩ := lay_opts l
    exact ⟨by simp only [List.map_cons, oD, PyData.canLayAll0, PyData.canLay0, h1, Bool.and_self], by simp only [List.map_cons, oD, PyData.depthAll, PyData.depth, h2, Nat.max_self]⟩
  | some i :: l => by
    obtain ⟨h1, h2⟩ := lay_opts l
    exact ⟨by simp only [List.map_cons, oD, PyData.canLayAll0, PyData.canLay0, h1, Bool.and_self], by simp only [List.map_cons, oD, PyData.depthAll, PyData.depth, h2, Nat.max_self]⟩
theorem shaped_opts (l : List (Option Int)) : SeqAt.shaped (.list (l.map oD)) = true := by
  obtain ⟨h1, h2⟩ := lay_opts l
  simp only [SeqAt.shaped, PyData.canLay0, PyData.depth, h1, h2, Bool.true_and]
  decide
theorem fw_get : ∀ p ∈ fwL, valV fwK (Sum.inr p.1) = some (.int p.2) := by decide +kernel
theorem fw_none {x : Str} (h : ∀ q ∈ fwL, ¬ q.1 = x) : valV fwK (Sum.inr x) = none := by
  unfold valV
  have : (fwK.find? fun kv => decide (kv.1 = Sum.inr x)) = none := List.find?_eq_none.mpr fun kv hkv => by
    unfold fwK at hkv
    obtain ⟨q, hq, rfl⟩ := List.mem_map.mp hkv
    intro z
    exact h q hq (Sum.inr.inj (of_decide_eq_true z))
  rw [this]
  rfl
theorem optNe {x : Option Int} {l : List Int} (h : inV (oV x) (l.map V.int) = false) : ∀ i ∈ l, ¬ x = some i := by
  intro i hi e
  subst e
  have : inV (.int i) (l.map V.int) = true := by
    unfold inV
    refine List.any_eq_true.mpr ⟨.int i, List.mem_map.mpr ⟨i, hi, rfl⟩, ?_⟩
    show eqV (.int i) (.int i) = true
    unfold eqV
    simp
  rw [show oV (some i) = V.int i from rfl, this] at h
  cases h
theorem optIn {x : Option Int} {l : List Int} (h : inV (oV x) (l.map V.int) = true) : ∃ i ∈ l, x = some i := by
  unfold inV at h
  obtain ⟨y, hy, e⟩ := List.any_eq_true.mp h
  obtain ⟨i, hi, rfl⟩ := List.mem_map.mp hy
  cases x with
  | none =>
    exfalso
    have e' : eqV (.int i) .non = true := e
    unfold eqV at e'
    simp at e'
  | some j =>
    have e' : eqV (.int i) (.int j) = true := e
    unfold eqV at e'
    simp at e'
    exact ⟨i, hi, by rw [e']⟩
def spLr : Sp := fun vs H Q _ => ∃ t : Str, vs = [.str t] ∧ t.length ≤ 90000 ∧ (∀ r, readS t = some r → ∀ H' Z, Same H H' → RwAt H' Z r → Q (.ref Z) H') ∧ (readS t = none → ∀ H', Same H H' → Q .non H')
theorem pO_len {ws : List Str} (h : ws ≠ []) : (pO ws).2.length + 1 = ws.length := by
  cases ws with
  | nil => exact absurd rfl h
  | cons x r =>
    show (r.map numO).length + 1 = _
    rw [List.length_map, List.length_cons]
theorem len2 {ws : List Str} (h : ws.length = 2) : ∃ x y, ws = [x, y] := by
  cases ws with
  | nil => simp at h
  | cons x r =>
    cases r with
    | nil => simp at h
    | cons y r =>
      have : r = [] := by simpa using h
      exact ⟨x, y, by rw [this]⟩
theorem prt_ne {t : Str} : ∀ ws ∈ prt t, ws ≠ [] := fun ws h => by
  obtain ⟨s, _, rfl⟩ := List.mem_map.mp h
  exact split_ne (by decide +kernel) (by decide +kernel)
theorem awUnsnoc {α β : Type} {F : α → β → Prop} {x : α} {y : β} : ∀ {l : List α} {l2 : List β}, Paired F (l ++ [x]) (l2 ++ [y]) → Paired F l l2 ∧ F x y
  | [], [], .cons h .nil => ⟨.nil, h⟩
  | [], b :: l2, h => by
    have := awLen h
    simp at this
  | a :: l, [], h => by
    have := awLen h
    simp at this
  | a :: l, b :: l2, .cons h t => by
    obtain ⟨h1, h2⟩ := awUnsnoc t
    exact ⟨.cons h h1, h2⟩
theorem flat_oV : ∀ x : Option Int, flatV (oV x) = true
  | none => rfl
  | some _ => rfl
theorem readC_eq (w0 wl : List Str) (ms : List (List Str)) : readC ((w0 :: (ms ++ [wl])).map pO) = ((pO w0).2.length = 1 ∧ (pO w0).1 = "in" ∧ (pO wl).2.length = 1 ∧ (pO wl).1 = "out" ∧ rowB ((pO w0).2.headD none) (ms.map pO) ((pO wl).2.headD none) = true) := by
  have el : ((w0 :: (ms ++ [wl])).map pO).getLastD ("", []) = pO wl := by
    rw [List.map_cons, List.map_append]
    exact lastD _ _ _ _
  have em : (((w0 :: (ms ++ [wl])).map pO).drop 1).dropLast = ms.map pO := by
    rw [List.map_cons, List.map_append]
    exact midL _ _ _
  unfold readC
  rw [el, em]
  rfl
set_option maxHeartbeats 4000000 in
theorem ok_lr {f fN fW : Addr} {fd fdN fdW : FuncData} {k : Nat} (F : Fun K "_law_read" "_law_read" s_law_read f fd) (GN : FnOk P w K mg base CX0 (k + 1) fN fdN ["word"] spLn) (kN : PySem.W.keepIn K (.ref fN) = true) (bN : Binds K fdN ["word"] []) (gN : mg "_law_number" = some (.ref fN))
    (GW : FnOk P w K mg base CX0 (k + 1) fW fdW [] spFw) (kW : PySem.W.keepIn K (.ref fW) = true) (bW : Binds K fdW [] []) (gW : mg "_law_first_words" = some (.ref fW)) (mn : mg "len" = none) (mt : mg "tuple" = none) (me : mg "enumerate" = none) :
    FnOk P w K mg base CX0 (k + 2) f fd ["text"] spLr := by
  refine F.ok sc_law_read (fun vs H Q E h => ?_) (fun cdv A outer s H vs Q E hr h => ?_)
  · obtain ⟨t, rfl, _⟩ := h
    rfl
  · obtain ⟨t, rfl, ht, qS, qN⟩ := h
    refine ⟨_, pss_cons (ps_setLc (i := 2) (own := [("part", 1)]) (g := gName 1) (by rfl) sc_law_read.nd rfl rfl (sw_true rfl rfl rfl (by decide +kernel)) (pi_list (pe_split (pv 0) pe_str)) (blkOk_by (own := [("part", 1)]) (N := N_law_read) (sc := defScope s_law_read) (by decide +kernel))
          (fun _ _ _ _ _ => pg_name (i := 1) sc_law_read.nd rfl (Or.inl rfl)) (fun _ _ _ _ _ => pts_nil) (fun _ _ _ _ _ => pe_split (pv 1) pe_str))
      (pss_cons (ps_if (PW.pt (pw_or (pt_cmpR op_lt (pe_callB call_len_seq (by rfl) mn PySem.boot_len (pa_cons (pv 2) pa_nil)) pe_int (nomark _)) (pw_or (pt_cmpR op_gt (pe_callB call_len_seq (by rfl) mn PySem.boot_len (pa_cons (pv 2) pa_nil)) pe_int (nomark _))
          (pw_or (pt_cmpR op_ne (pe_callB call_len_seq (by rfl) mn PySem.boot_len (pa_cons (pe_ix ix_list (pv 2) pe_int (fun _ _ => rfl)) pa_nil)) pe_int (nomark _)) (pw_or1 (pt_cmpR op_ne (pe_callB call_len_seq (by rfl) mn PySem.boot_len (pa_cons (pe_ix ix_list (pv 2) (pe_un un_neg pe_int) (fun _ _ => rfl)) pa_nil)) pe_int (nomark _)))))))
        (pss_one (ps_ret pe_non)) pss_nil)
      (pss_cons (ps_asg (pe_tup (pa_cons (pe_call GN hr (by rfl) gN kN bN .nil pass0 (pa_cons (pe_ix ix_list (pe_ix ix_list (pv 2) pe_int (fun _ _ => rfl)) pe_int (fun _ _ => rfl)) pa_nil)) (pa_cons (pe_call GN hr (by rfl) gN kN bN .nil pass0 (pa_cons (pe_ix ix_list (pe_ix ix_list (pv 2) (pe_un un_neg pe_int) (fun _ _ => rfl)) pe_int (fun _ _ => rfl)) pa_nil)) pa_nil))) (pg_tup rfl (pgs_cons (pg_name (i := 3) sc_law_read.nd rfl (.inr rfl)) (pgs_cons (pg_name (i := 4) sc_law_read.nd rfl (.inl rfl)) pgs_nil))))
      (pss_cons (ps_if (PW.pt (pw_or (pt_cmpR op_ne (pe_ix ix_list (pe_ix ix_list (pv 2) pe_int (fun _ _ => rfl)) pe_int (fun _ _ => rfl)) pe_str (nomark _)) (pw_or (pt_cmpR op_ne (pe_ix ix_list (pe_ix ix_list (pv 2) (pe_un un_neg pe_int) (fun _ _ => rfl)) pe_int (fun _ _ => rfl)) pe_str (nomark _))
          (pw_or1 (pt_cmpR op_notIn_seq (pv 3) (pe_tup (pa_cons pe_int (pa_cons pe_int (pa_cons pe_int pa_nil)))) (by rfl))))))
        (pss_one (ps_ret pe_non)) pss_nil)
      (pss_cons (ps_set (i := 5) sc_law_read.nd rfl (.inl rfl) (pe_call0 GW hr (by rfl) gW kW bW .nil pass0))
      (pss_cons (ps_set (i := 6) sc_law_read.nd rfl (.inl rfl) (pe_lst pa_nil))
      (pss_cons (ps_for PassesOwn.never rfl (pi_enum (by rfl) me (pa_cons (pe_slice sl_list (pv 2) (po_some pe_int) (po_some (pe_un un_neg pe_int))) pa_nil)) (pg_tup rfl (pgs_cons (pg_name (i := 7) sc_law_read.nd rfl (.inr rfl)) (pgs_cons (pg_name (i := 1) sc_law_read.nd rfl (.inl rfl)) pgs_nil)))
        (pss_cons (ps_if (PW.pt (pw_or (pt_cmp (pc_dnotin (hu_of hr) (pe_ix ix_list (pv 1) pe_int (fun _ _ => rfl)) (pv 5))) (pw_or1 (pt_cmpR op_ne (pe_callB call_len_seq (by rfl) mn PySem.boot_len (pa_cons (pv 1) pa_nil)) (pe_op op_add pe_int (pe_dget (hu_of hr) (pv 5) (pe_ix ix_list (pv 1) pe_int (fun _ _ => rfl)) (fun _ _ => rfl))) (nomark _)))))
          (pss_one (ps_ret pe_non)) pss_nil)
        (pss_cons (ps_setLc (i := 8) (own := [("word", 9)]) (g := gName 9) (by rfl) sc_law_read.nd rfl rfl (sw_true rfl rfl rfl (by decide +kernel)) (pi_list (pe_slice sl_list (pv 1) (po_some pe_int) po_none)) (blkOk_by (own := [("word", 9)]) (N := N_law_read) (sc := defScope s_law_read) (by decide +kernel))
          (fun _ _ _ _ _ => pg_name (i := 9) sc_law_read.nd rfl (Or.inl rfl)) (fun _ _ _ _ _ => pts_nil) (fun _ _ _ _ _ => pe_call GN hr (by rfl) gN kN bN .nil pass0 (pa_cons (pv 9) pa_nil)))
        (pss_cons (ps_if (pt_cmpR (op_neD hr.units) (pe_lc (own := [("one", 10)]) (g := gName 10) (by rfl) sc_law_read.nd (pi_list (pv 8)) (blkOk_by (own := [("one", 10)]) (N := N_law_read) (sc := defScope s_law_read) (by decide +kernel))
            (fun _ _ _ _ _ => pg_name (i := 10) sc_law_read.nd rfl (Or.inl rfl)) (fun _ _ _ _ _ => pts_one (PW.pt (pw_or (pt_cmp (pc_isN (pv 10))) (pw_or1 (pt_cmpR op_ge (pv 10) (pe_op op_add (pv 3) (pv 7)) (nomark _)))))) (fun _ _ _ _ _ => pv 10)) (pe_lst pa_nil) (nomark _))
          (pss_one (ps_ret pe_non)) pss_nil)
        (pss_one (ps_expr (pe_bm PySem.F.plainAttrs_list PySem.F.slot_list_append PySem.F.type_list_append mt_append (pv 6) (pa_cons (pe_op op_catZ (pe_tup (pa_cons (pe_ix ix_list (pv 1) pe_int (fun _ _ => rfl)) pa_nil)) (pe_callTy call_tuple_of (by rfl) mt (by decide +kernel) (pa_cons (pv 8) pa_nil))) pa_nil))))))))
      (pss_cons (ps_if (PW.pt (pw_or (pt_cmp (pc_isN (pv 4))) (pw_or1 (pt_cmpR op_ge (pv 4) (pe_op op_add (pv 3) (pe_callB call_len_seq (by rfl) mn PySem.boot_len (pa_cons (pv 6) pa_nil))) (nomark _)))))
        (pss_one (ps_ret pe_non)) pss_nil)
      (pss_one (ps_ret (pe_tup (pa_cons (pv 3) (pa_cons (pe_callTy call_tuple_of (by rfl) mt (by decide +kernel) (pa_cons (pv 6) pa_nil)) (pa_cons (pv 4) pa_nil))))))))))))), ?_⟩
    have hle := PyProof.Rows.split_le t "; "
    obtain ⟨S, hS⟩ : ∃ S, S = Txt.split t "; " := ⟨_, rfl⟩
    have hpt : ∀ p ∈ S, p.length ≤ 90000 := fun p hp => by
      rw [hS] at hp
      exact Nat.le_trans (split_part hp) ht
    have hSne : S ≠ [] := by
      rw [hS]
      exact split_ne (by decide +kernel) (by decide +kernel)
    have hprt : prt t = S.map fun s => Txt.split s " " := by rw [hS]; rfl
    have hWl : ∀ ws ∈ prt t, ws.length ≤ 90002 := fun ws hws => by
      rw [hprt] at hws
      obtain ⟨s, hs, rfl⟩ := List.mem_map.mp hws
      have h1 := PyProof.Rows.split_le s " "
      have h2 := hpt s hs
      omega
    refine ⟨.str t, rfl, ⟨_, rfl⟩, t, "; ", rfl, rfl, by decide +kernel, by rw [sizeLine_eq]; omega, fun L0 hL0 => ?_⟩
    rw [← hS] at hle ⊢
    have sL0 := same_new (o := .lst (S.map V.str)) hL0
    refine ⟨L0, rfl, ⟨_, .inl (.inl upd_same)⟩, fun L hL => ?_⟩
    refine lc_list (K := K) (a := L0) (xs := S.map V.str) (fun j H4 => ∃ as, H4 L = some (.lst (as.map V.ref)) ∧ WsAt H4 as ((S.take j).map fun s => Txt.split s " ") ∧ Same (upd H L0 (.lst (S.map V.str))) H4) ⟨[], upd_same, .nil, same_new hL⟩ (fun j H4 _ h4 => by
      obtain ⟨_, _, _, s4⟩ := h4
      exact .inl (.inl (s4 _ _ upd_same))) (fun j x H4 hx h4 => ?_) (fun H4 h4 => ?_)
    · obtain ⟨as, eL, has, s4⟩ := h4
      have hj := (List.getElem?_eq_some_iff.mp hx).1
      rw [List.length_map] at hj
      rw [List.getElem?_map] at hx
      obtain ⟨z, hz, rfl⟩ := Option.map_eq_some_iff.mp hx
      have la := awLen has
      rw [List.length_map, List.length_take] at la
      have hzl := hpt z (List.mem_of_getElem? hz)
      refine ⟨rfl, .str z, rfl, ⟨_, rfl⟩, z, " ", rfl, rfl, by decide +kernel, by rw [sizeLine_eq]; omega, fun r hr' => ?_⟩
      have sr := same_new (o := .lst ((Txt.split z " ").map V.str)) hr'
      have eL5 := sr _ _ eL
      have nrL : L ≠ r := ne_of_none eL hr'
      refine ⟨_, eL5, ?_, as ++ [r], ?_, ?_, ?_⟩
      · rw [List.length_map, sizeLine_eq]
        omega
      · rw [upd_same, List.map_append]
        rfl
      · rw [List.take_add_one, hz, List.map_append]
        have hin : ∀ b ∈ as, b ≠ L := fun b hb e => by
          obtain ⟨i, hi⟩ := List.mem_iff_getElem?.mp hb
          obtain ⟨ws, _, hF⟩ := awGet has hi
          have hF' : H4 b = some (.lst (ws.map V.str)) := hF
          rw [e, eL] at hF'
          have e2 := HO.lst.inj (Option.some.inj hF')
          cases as with
          | nil => simp at hb
          | cons a0 as0 =>
            cases ws with
            | nil => simp at e2
            | cons w0 ws0 => simp at e2
        have key : ∀ {l : List Addr} {W : List (List Str)}, (∀ b ∈ l, b ≠ L) → WsAt H4 l W → WsAt (upd (upd H4 r (.lst ((Txt.split z " ").map V.str))) L (.lst (as.map V.ref ++ [.ref r]))) l W := by
          intro l W hl hw
          induction hw with
          | nil => exact .nil
          | cons hh tt ih => exact .cons (by rw [upd_ne (hl _ List.mem_cons_self)]; exact sr _ _ hh) (ih fun b hb => hl b (List.mem_cons_of_mem _ hb))
        exact awSnoc (F := fun a (ws : List Str) => upd (upd H4 r (.lst ((Txt.split z " ").map V.str))) L (.lst (as.map V.ref ++ [.ref r])) a = some (.lst (ws.map V.str))) (by rw [upd_ne nrL.symm]; exact upd_same) (key hin has)
      · intro b u e
        rw [upd_ne (ne_of_none e hL)]
        exact sr _ _ (s4 _ _ e)
    · obtain ⟨as, eL, has, s4⟩ := h4
      rw [List.length_map, List.take_length, ← hprt] at has
      have s04 := sL0.trans s4
      have wne := prt_ne (t := t)
      have hpp := partsO_prt t
      obtain ⟨W, hW⟩ : ∃ W, W = prt t := ⟨_, rfl⟩
      rw [← hW] at has wne hpp hWl
      have la := awLen has
      have lW : W.length = S.length := by rw [hW, hprt, List.length_map]
      have no : ¬ readC (W.map pO) → ∀ H', Same H H' → Q .non H' := fun hn => qN (read_none (by rw [hpp]; exact hn))
      have SL : SqL K H4 L (as.map V.ref) := .inl (.inl eL)
      have W1 : 1 ≤ W.length := by
        rw [lW]
        cases S with
        | nil => exact absurd rfl hSne
        | cons x l => rw [List.length_cons]; omega
      have eln : (((as.map V.ref).length : Nat) : Int) = W.length := by rw [List.length_map, la]
      refine ⟨.ref L, rfl, L, _, rfl, .inl SL, _, 2, rfl, rfl, _, rfl, ite2 (fun h2 => ?_) (fun h2 => ?_)⟩
      · have h2' := of_decide_eq_true h2
        rw [eln] at h2'
        refine no (fun c => ?_) H4 s04
        cases W with
        | nil => simp at W1
        | cons w0 W0 =>
          have : W0 = [] := List.length_eq_zero_iff.mp (by rw [List.length_cons] at h2'; omega)
          subst this
          have z1 : (pO w0).1 = "in" := c.2.1
          have z2 : (pO w0).1 = "out" := c.2.2.2.1
          rw [z1] at z2
          exact absurd z2 (by decide +kernel)
      have h2' : 2 ≤ W.length := by
        have : ¬ (((as.map V.ref).length : Nat) : Int) < 2 := fun z => h2 (decide_eq_true z)
        omega
      obtain ⟨w0, ms, wl, eW⟩ : ∃ w0 ms wl, W = w0 :: (ms ++ [wl]) := by
        cases W with
        | nil => simp at W1
        | cons w0 R =>
          have : R ≠ [] := fun z => by
            rw [z] at h2'
            simp at h2'
          obtain ⟨ms, wl, e⟩ := snocOf this
          exact ⟨w0, ms, wl, by rw [e]⟩
      obtain ⟨a0, am, al, eA⟩ : ∃ a0 am al, as = a0 :: (am ++ [al]) := by
        cases as with
        | nil =>
          rw [List.length_nil] at la
          omega
        | cons a0 R =>
          have : R ≠ [] := fun z => by
            rw [z] at la
            simp at la
            omega
          obtain ⟨am, al, e⟩ := snocOf this
          exact ⟨a0, am, al, by rw [e]⟩
      have lms : W.length = ms.length + 2 := by rw [eW, List.length_cons, List.length_append]; rfl
      have has' := has
      rw [eW, eA] at has'
      obtain ⟨e0, htl⟩ : H4 a0 = some (.lst (w0.map V.str)) ∧ WsAt H4 (am ++ [al]) (ms ++ [wl]) := by
        cases has' with
        | cons h t => exact ⟨h, t⟩
      obtain ⟨ham, el⟩ := awUnsnoc htl
      have el' : H4 al = some (.lst (wl.map V.str)) := el
      have n0 : w0 ≠ [] := wne w0 (by rw [eW]; exact List.mem_cons_self)
      have nl : wl ≠ [] := wne wl (by rw [eW]; simp)
      have hC := readC_eq w0 wl ms
      rw [← eW] at hC
      have lam := awLen ham
      have at0 : atI (as.map V.ref) 0 = some (.ref a0) := awAt0 eA
      have atl : atI (as.map V.ref) (-1) = some (.ref al) := by
        rw [eA, List.map_cons, List.map_append]
        exact atI_last (_ :: _) _
      refine ⟨.ref L, rfl, L, _, rfl, .inl SL, _, 10, rfl, rfl, _, rfl, ite2 (fun h10 => ?_) (fun h10 => ?_)⟩
      · have h10' := of_decide_eq_true h10
        rw [eln] at h10'
        refine no (fun c => ?_) H4 s04
        rw [hC] at c
        have := (rowB_ok c.2.2.2.2).2.2.2.len
        have z : (midD (ms.map pO)).length ≤ 8 := this
        unfold midD at z
        rw [List.length_map, List.length_map] at z
        omega
      have h8 : ms.length ≤ 8 := by
        have : ¬ (10 : Int) < (((as.map V.ref).length : Nat) : Int) := fun z => h10 (decide_eq_true z)
        omega
      refine ⟨.ref L, rfl, L, _, 0, .ref a0, rfl, rfl, SL, at0, a0, _, rfl, .inl (.inl (.inl e0)), ⟨rfl, _, rfl, ite2 (fun hn0 => ?_) (fun hq0 => ?_)⟩⟩
      · have z := neT hn0
        rw [List.length_map] at z
        refine no (fun c => ?_) H4 s04
        rw [hC] at c
        have := c.1
        have := pO_len n0
        omega
      have c0 := neF hq0
      rw [List.length_map] at c0
      refine ⟨.ref L, rfl, 1, rfl, L, _, -1, .ref al, rfl, rfl, SL, atl, al, _, rfl, .inl (.inl (.inl el')), ⟨rfl, _, rfl, ite2 (fun hn1 => ?_) (fun hq1 => ?_)⟩⟩
      · have z := neT hn1
        rw [List.length_map] at z
        refine no (fun c => ?_) H4 s04
        rw [hC] at c
        have := c.2.2.1
        have := pO_len nl
        omega
      have c1 := neF hq1
      rw [List.length_map] at c1
      obtain ⟨x0, y0, rfl⟩ := len2 (ws := w0) (by omega)
      obtain ⟨xl, yl, rfl⟩ := len2 (ws := wl) (by omega)
      refine ⟨.ref L, rfl, L, _, 0, .ref a0, rfl, rfl, SL, at0, a0, _, 1, .str y0, rfl, rfl, .inl (.inl e0), atI_nat (j := 1) rfl, y0, rfl, fun H5 s5 => ?_⟩
      refine ⟨.ref L, rfl, 1, rfl, L, _, -1, .ref al, rfl, rfl, .inl (.inl (s5 _ _ eL)), atl, al, _, 1, .str yl, rfl, rfl, .inl (.inl (s5 _ _ el')), atI_nat (j := 1) rfl, yl, rfl, fun H6 s6 => ⟨(by show 2 ≤ sizeLine; decide), fun U hU => ?_⟩⟩
      have sU := same_new (o := .tup [oV (lnO y0), oV (lnO yl)]) hU
      refine ⟨U, [oV (lnO y0), oV (lnO yl)], rfl, .inl (.inl upd_same), rfl, oV (lnO y0), [oV (lnO yl)], rfl, oV (lnO yl), [], rfl, rfl, ?_⟩
      obtain ⟨H7, hH7⟩ : ∃ H7, H7 = upd H6 U (.tup [oV (lnO y0), oV (lnO yl)]) := ⟨_, rfl⟩
      have s47 : Same H4 H7 := by rw [hH7]; exact s5.trans (s6.trans sU)
      rw [← hH7]
      have s07 := s04.trans s47
      have SL7 : SqL K H7 L (as.map V.ref) := .inl (.inl (s47 _ _ eL))
      refine ⟨.ref L, rfl, L, _, 0, .ref a0, rfl, rfl, SL7, at0, a0, _, 0, .str x0, rfl, rfl, .inl (.inl (s47 _ _ e0)), atI_nat (j := 0) rfl, ⟨rfl, _, rfl, ite2 (fun hn2 => ?_) (fun hq2 => ?_)⟩⟩
      · refine no (fun c => ?_) H7 s07
        rw [hC] at c
        have z : x0 = "in" := c.2.1
        rw [decide_eq_true (congrArg V.str z)] at hn2
        cases hn2
      have c2 : x0 = "in" := by
        by_cases e : x0 = "in"
        · exact e
        · exact absurd (by rw [decide_eq_false (fun y => e (V.str.inj y))]; rfl) hq2
      refine ⟨.ref L, rfl, 1, rfl, L, _, -1, .ref al, rfl, rfl, SL7, atl, al, _, 0, .str xl, rfl, rfl, .inl (.inl (s47 _ _ el')), atI_nat (j := 0) rfl, ⟨rfl, _, rfl, ite2 (fun hn3 => ?_) (fun hq3 => ?_)⟩⟩
      · refine no (fun c => ?_) H7 s07
        rw [hC] at c
        have z : xl = "out" := c.2.2.2.1
        rw [decide_eq_true (congrArg V.str z)] at hn3
        cases hn3
      have c3 : xl = "out" := by
        by_cases e : xl = "out"
        · exact e
        · exact absurd (by rw [decide_eq_false (fun y => e (V.str.inj y))]; rfl) hq3
      have hC2 : readC (W.map pO) = (rowB (numO y0) (ms.map pO) (numO yl) = true) := by
        rw [hC]
        apply propext
        constructor
        · exact fun c => c.2.2.2.2
        · exact fun c => ⟨rfl, c2, rfl, c3, c⟩
      refine ⟨oV (lnO y0), rfl, (by show 3 ≤ sizeLine; decide), fun T hT => ?_⟩
      have sT := same_new (o := .tup (([1, 2, 3] : List Int).map V.int)) hT
      refine ⟨T, ([1, 2, 3] : List Int).map V.int, rfl, .inr (SqT.of upd_same), flat_oV _, rfl, _, rfl, ?_⟩
      show if (!inV (oV (lnO y0)) (([1, 2, 3] : List Int).map V.int)) = true then _ else _
      cases hin : inV (oV (lnO y0)) (([1, 2, 3] : List Int).map V.int) with
      | false =>
        refine no (fun c => ?_) _ (s07.trans sT)
        rw [hC2] at c
        obtain ⟨b1, _, _, b4⟩ := rowB_ok c
        have m1 : 1 ≤ (numO y0).getD 0 := b4.m1
        have m3 : (numO y0).getD 0 ≤ 3 := b4.m3
        have z := lnO_of b1 (by omega)
        refine optNe hin ((numO y0).getD 0) ?_ z
        have : (numO y0).getD 0 = 1 ∨ (numO y0).getD 0 = 2 ∨ (numO y0).getD 0 = 3 := by omega
        rcases this with h | h | h <;> rw [h] <;> simp
      | true =>
        obtain ⟨m, hm, em⟩ := optIn hin
        have m13 : 1 ≤ m ∧ m ≤ 3 := by
          simp at hm
          omega
        obtain ⟨nm, _⟩ := lnO_some em
        rw [em]
        rw [nm] at hC2
        obtain ⟨H7b, hH7b⟩ : ∃ H7b, H7b = upd H7 T (.tup (([1, 2, 3] : List Int).map V.int)) := ⟨_, rfl⟩
        have s7b : Same H7 H7b := by rw [hH7b]; exact sT
        show _
        refine ⟨rfl, fun H8 p s8 hp ep => ⟨Nat.zero_le _, fun Dl hDl => ?_⟩⟩
        have s48 : Same H4 H8 := s47.trans (sT.trans s8)
        have s08 := s04.trans s48
        have sDl := same_new (o := .lst []) hDl
        have npD : p ≠ Dl := ne_of_none ep hDl
        refine ⟨.ref L, rfl, 1, rfl, 1, rfl, -1, rfl, L, _, rfl, .inl (.inl (sDl _ _ (s48 _ _ eL))), fun M hM => ?_⟩
        have ecut : cutV (as.map V.ref) (some 1) (some (-1)) = am.map V.ref := by
          rw [cutMid (fun z => by rw [eA] at z; simp at z), eA, List.map_cons, List.map_append]
          exact midL _ _ _
        rw [ecut]
        have sM := same_new (o := .lst (am.map V.ref)) hM
        have nMD : M ≠ Dl := fun z => by
          rw [z, upd_same] at hM
          cases hM
        have ham8 : WsAt H8 am ms := stayWs s48 ham
        have no2 : ∀ j ws, ms[j]? = some ws → deedB (m + (j : Nat)) (pO ws) = false → ∀ H', Same H H' → Q .non H' := fun j ws hws hb => no (fun c => by
          rw [hC2] at c
          have c5 : (decide (1 ≤ m ∧ m ≤ 3) && (decide ((ms.map pO).length ≤ 8) && ((midB m (ms.map pO)).all id && numB (m + (ms.map pO).length) (numO yl)))) = true := c
          simp only [Bool.and_eq_true] at c5
          have := midB_at c5.2.2.1 (k := j) (p := pO ws) (by rw [List.getElem?_map, hws]; rfl)
          rw [hb] at this
          cases this)
        refine ⟨M, _, rfl, .inl (.inl upd_same), for_it (walk_enum (K := K) (a := M) (xs := am.map V.ref)) (fun j σ H3 => ∃ y1 y7 y8 ds, σ = [some (.str t), y1, some (.ref L), some (.int m), some (oV (lnO yl)), some (.ref p), some (.ref Dl), y7, y8, none, none] ∧ H3 M = some (.lst (am.map V.ref)) ∧ H3 Dl = some (.lst (ds.map V.ref)) ∧ PtsAt H3 ds ((ms.take j).map pO) ∧ (∀ (i : Nat) ws, i < j → ms[i]? = some ws → deedB (m + (i : Nat)) (pO ws) = true) ∧ Same H8 H3)
          ⟨none, none, none, [], rfl, upd_same, sM _ _ upd_same, .nil, (fun i ws hi => absurd hi (Nat.not_lt_zero i)), sDl.trans sM⟩ (fun j σ H3 _ h3 => ?_) (fun j x σ H3 H3' hj h3 hx => ?_) (fun σ H3 h3 => ?_)⟩
        · obtain ⟨_, _, _, _, _, eM, _⟩ := h3
          exact .inl (.inl eM)
        · obtain ⟨y1, y7, y8, ds, rfl, eM, eD, hds, hok, s3⟩ := h3
          obtain ⟨U2, x1, x2, rfl, hU2, rfl, g1, g2⟩ := hx
          have hj2 : j < am.length := by rwa [List.length_map] at hj
          obtain rfl : x1 = .int (j : Nat) := (Option.some.inj g1).symm
          have e2 : x2 = .ref am[j] := by
            have g2' : (am.map V.ref)[j]? = some x2 := g2
            rw [List.getElem?_map, List.getElem?_eq_getElem hj2] at g2'
            exact (Option.some.inj g2').symm
          subst e2
          obtain ⟨ws, hws, hw2⟩ := awGet ham8 (List.getElem?_eq_getElem hj2)
          have hw2' : H8 am[j] = some (.lst (ws.map V.str)) := hw2
          have wsm : ws ∈ W := by
            rw [eW]
            exact List.mem_cons_of_mem _ (List.mem_append_left _ (List.mem_of_getElem? hws))
          have wsl := hWl ws wsm
          obtain ⟨xw, r, rfl⟩ : ∃ xw r, ws = xw :: r := by
            cases ws with
            | nil => exact absurd rfl (wne [] wsm)
            | cons xw r => exact ⟨xw, r, rfl⟩
          rw [List.length_cons] at wsl
          obtain ⟨aj, haj⟩ : ∃ aj, aj = am[j] := ⟨_, rfl⟩
          rw [← haj] at hw2' ⊢
          have sU2 := same_new (o := .tup [.int (j : Nat), .ref aj]) hU2
          refine ⟨U2, [.int (j : Nat), .ref aj], rfl, .inl (.inl upd_same), rfl, .int (j : Nat), [.ref aj], rfl, .ref aj, [], rfl, rfl, ?_⟩
          obtain ⟨H9, hH9⟩ : ∃ H9, H9 = upd H3 U2 (.tup [.int (j : Nat), .ref aj]) := ⟨_, rfl⟩
          rw [← hH9]
          have s39 : Same H3 H9 := by rw [hH9]; exact sU2
          have s89 := s3.trans s39
          have ea := s89 _ _ hw2'
          have ep9 : H9 p = some (.dK fwK) := s89 _ _ ep
          have SA : SqL K H9 aj ((xw :: r).map V.str) := .inl (.inl ea)
          have at0x : atI ((xw :: r).map V.str) 0 = some (.str xw) := atI_nat (j := 0) rfl
          by_cases hwd : ∃ c, (xw, c) ∈ fwL
          · obtain ⟨c, hc⟩ := hwd
            have dg : ∀ {Hx : Hp}, Hx p = some (.dK fwK) → DGet Hx p (.str xw) (some (.int c)) := fun e => dget_at (k := Sum.inr xw) e (fw_get _ hc)
            refine ⟨.ref aj, rfl, aj, _, 0, .str xw, rfl, rfl, SA, at0x, .ref p, rfl, p, some (.int c), rfl, dg ep9, false, rfl, ?_⟩
            refine ⟨.ref aj, rfl, aj, _, rfl, .inl SA, .ref p, rfl, .ref aj, rfl, aj, _, 0, .str xw, rfl, rfl, SA, at0x, p, .int c, rfl, dg ep9, 1, c, rfl, rfl, ⟨rfl, _, rfl, ite2 (fun hne => ?_) (fun heq => ?_)⟩⟩
            · have z := neT hne
              rw [List.length_map, List.length_cons] at z
              refine no2 j _ hws ?_ H9 (s08.trans s89)
              rw [deedB_at (p := pO (xw :: r)) hc, decide_eq_false (by show ¬ c = ((r.map numO).length : Int); rw [List.length_map]; omega), Bool.false_and]
            have hcl : c = (r.length : Int) := by
              have z := neF heq
              rw [List.length_map, List.length_cons] at z
              omega
            have hdb : deedB (m + (j : Nat)) (pO (xw :: r)) = (r.map numO).all (numB (m + (j : Nat))) := by
              rw [deedB_at (p := pO (xw :: r)) hc, decide_eq_true (by show c = ((r.map numO).length : Int); rw [List.length_map]; exact hcl), Bool.true_and]
              rfl
            refine ⟨.ref aj, rfl, 1, rfl, aj, _, rfl, SA, fun N hN => ?_⟩
            rw [show cutV ((xw :: r).map V.str) (some 1) none = r.map V.str from cutTail _ _]
            have sN := same_new (o := .lst (r.map V.str)) hN
            obtain ⟨H10, hH10⟩ : ∃ H10, H10 = upd H9 N (.lst (r.map V.str)) := ⟨_, rfl⟩
            have eN : H10 N = some (.lst (r.map V.str)) := by rw [hH10]; exact upd_same
            have s910 : Same H9 H10 := by rw [hH10]; exact sN
            rw [← hH10]
            refine ⟨N, rfl, ⟨_, .inl (.inl eN)⟩, fun C hC' => ?_⟩
            refine lc_list (K := K) (a := N) (xs := r.map V.str) (fun i H4 => H4 C = some (.lst (((r.take i).map lnO).map oV)) ∧ Same H10 H4) ⟨upd_same, same_new hC'⟩ (fun i H4 _ h4 => .inl (.inl (h4.2 _ _ eN))) (fun i x H4 hx h4 => ?_) (fun H11 h11 => ?_)
            · obtain ⟨eC, s4⟩ := h4
              have hi := (List.getElem?_eq_some_iff.mp hx).1
              rw [List.length_map] at hi
              rw [List.getElem?_map] at hx
              obtain ⟨z, hz, rfl⟩ := Option.map_eq_some_iff.mp hx
              refine ⟨rfl, .str z, rfl, z, rfl, fun H5 s5 => ⟨_, s5 _ _ eC, ?_, ?_, ?_⟩⟩
              · rw [List.length_map, List.length_map, List.length_take, sizeLine_eq]
                omega
              · rw [upd_same, List.take_add_one, hz]
                simp
              · intro b u e
                rw [upd_ne (ne_of_none e hC')]
                exact s5 _ _ (s4 _ _ e)
            obtain ⟨eC, s11⟩ := h11
            rw [List.length_map, List.take_length] at eC
            obtain ⟨q1, hq1⟩ : ∃ q1, q1 = m + (j : Int) := ⟨_, rfl⟩
            have q12 : q1 ≤ 12 := by omega
            refine ⟨.ref C, rfl, C, rfl, ⟨_, .inl (.inl eC)⟩, fun G hG => ?_⟩
            refine lc_list (K := K) (a := C) (xs := (r.map lnO).map oV) (fun i H4 => H4 G = some (.lst ((((r.map lnO).take i).filter (offB q1)).map oV)) ∧ Same H11 H4) ⟨upd_same, same_new hG⟩ (fun i H4 _ h4 => .inl (.inl (h4.2 _ _ eC))) (fun i x H4 hx h4 => ?_) (fun H12 h12 => ?_)
            · obtain ⟨eG, s4⟩ := h4
              have hi := (List.getElem?_eq_some_iff.mp hx).1
              rw [List.length_map, List.length_map] at hi
              rw [List.getElem?_map] at hx
              obtain ⟨z, hz, rfl⟩ := Option.map_eq_some_iff.mp hx
              have put : ∀ y, y = oV z → offB q1 z = true → ∃ acc, H4 G = some (.lst acc) ∧ acc.length < sizeLine ∧ (upd H4 G (.lst (acc ++ [y])) G = some (.lst ((((r.map lnO).take (i + 1)).filter (offB q1)).map oV)) ∧ Same H11 (upd H4 G (.lst (acc ++ [y])))) := fun y hy ho => by
                refine ⟨_, eG, ?_, ?_, ?_⟩
                · have := List.length_filter_le (offB q1) ((r.map lnO).take i)
                  rw [List.length_take, List.length_map] at this
                  rw [List.length_map, sizeLine_eq]
                  omega
                · rw [upd_same, List.take_add_one, hz, hy]
                  simp [ho]
                · intro b u e
                  rw [upd_ne (ne_of_none e hG)]
                  exact s4 _ _ e
              cases z with
              | none =>
                refine ⟨rfl, .non, rfl, true, rfl, iteT ⟨.non, rfl, put .non rfl rfl⟩⟩
              | some n =>
                refine ⟨rfl, .int n, rfl, false, rfl, .int n, rfl, .int m, rfl, .int (j : Nat), rfl, m, (j : Nat), rfl, rfl, n, m + (j : Nat), rfl, rfl, _, rfl, ite2 (fun hge => ?_) (fun hlt => ?_)⟩
                · exact ⟨.int n, rfl, put (.int n) rfl (by show decide (q1 ≤ n) = true; rw [hq1]; exact hge)⟩
                · refine ⟨?_, s4⟩
                  have ho : offB q1 (some n) = false := by
                    show decide (q1 ≤ n) = false
                    rw [hq1]
                    simpa using hlt
                  rw [List.take_add_one, hz]
                  simp only [Option.toList_some, List.filter_append, List.filter_cons, ho, List.filter_nil]
                  simpa using eG
            obtain ⟨eG, s12⟩ := h12
            rw [List.length_map, List.take_length] at eG
            refine ⟨Nat.zero_le _, fun E3 hE3 => ?_⟩
            have sE := same_new (o := .lst []) hE3
            refine ⟨.list (((r.map lnO).filter (offB q1)).map oD), .list [], .lst (.inl (.inl (sE _ _ eG))) (dp_opts _), .lst (.inl (.inl upd_same)) .nil, shaped_opts _, by decide +kernel, _, rfl, ?_⟩
            obtain ⟨H13, hH13⟩ : ∃ H13, H13 = upd H12 E3 (.lst []) := ⟨_, rfl⟩
            have s1213 : Same H12 H13 := by rw [hH13]; exact sE
            rw [← hH13]
            have s913 : Same H9 H13 := s910.trans (s11.trans (s12.trans s1213))
            have eC13 := s1213 _ _ (s12 _ _ eC)
            cases hF : (r.map lnO).filter (offB q1) with
            | cons z zs =>
              rw [show PyData.eqv (.list ((z :: zs).map oD)) (.list []) = false by simp only [List.map_cons, PyData.eqv, PyData.eqvAll]]
              refine no2 j _ hws ?_ H13 (s08.trans (s89.trans s913))
              rw [hdb]
              have hz : z ∈ (r.map lnO).filter (offB q1) := by rw [hF]; exact List.mem_cons_self
              obtain ⟨hz1, hz2⟩ := List.mem_filter.mp hz
              obtain ⟨y, hy, rfl⟩ := List.mem_map.mp hz1
              rw [off_num q12, hq1] at hz2
              rw [List.all_map]
              refine List.all_eq_false.mpr ⟨y, hy, ?_⟩
              show ¬ numB (m + (j : Int)) (numO y) = true
              intro q
              rw [q] at hz2
              cases hz2
            | nil =>
              rw [show PyData.eqv (.list (([] : List (Option Int)).map oD)) (.list []) = true by decide +kernel]
              have good : ∀ y ∈ r, numB (m + (j : Nat)) (numO y) = true := fun y hy => by
                have z := List.filter_eq_nil_iff.mp hF (lnO y) (List.mem_map.mpr ⟨y, hy, rfl⟩)
                rw [off_num q12, hq1] at z
                simpa using z
              have same_l : r.map lnO = r.map numO := List.map_congr_left fun y hy => by
                obtain ⟨i, e, i0, i1⟩ := numB_some (good y hy)
                rw [e]
                exact lnO_of e (by omega)
              have okj : deedB (m + (j : Nat)) (pO (xw :: r)) = true := by
                rw [hdb, List.all_map]
                exact List.all_eq_true.mpr fun y hy => good y hy
              have eD13 := s913 _ _ (s39 _ _ eD)
              refine ⟨.ref Dl, rfl, .inl ⟨rfl, _, .inl (.inl eD13)⟩, .ref aj, rfl, aj, _, 0, .str xw, rfl, rfl, .inl (.inl (s913 _ _ ea)), at0x, (by show 1 ≤ sizeLine; decide), fun U3 hU3 => ?_⟩
              have sU3 := same_new (o := .tup [.str xw]) hU3
              refine ⟨.ref C, rfl, C, _, rfl, .inl ⟨.inl (.inl (sU3 _ _ eC13)), fun Z hZ => ?_⟩⟩
              have sZ := same_new (o := .tup ((r.map lnO).map oV)) hZ
              refine ⟨U3, Z, _, _, rfl, rfl, sZ _ _ upd_same, upd_same, ?_, fun pp H14 s14 e14 => ?_⟩
              · rw [List.length_map, List.length_map, sizeLine_eq]
                show 1 + r.length ≤ _
                omega
              have s1314 := sU3.trans (sZ.trans s14)
              have s314 := s39.trans (s913.trans s1314)
              have eD14 := s314 _ _ eD
              have e14' : H14 pp = some (.tup (pV (pO (xw :: r)))) := by
                rw [e14, same_l]
                rfl
              have ld := awLen hds
              rw [List.length_map, List.length_take] at ld
              refine ⟨Dl, _, _, rfl, rfl, eD14, ?_, some (.ref aj), some (.int (j : Nat)), some (.ref C), ds ++ [pp], rfl, ?_, ?_, ?_, ?_, ?_⟩
              · rw [List.length_map]
                exact small1000 (by omega)
              · rw [upd_ne nMD]
                exact s314 _ _ eM
              · rw [upd_same, List.map_append]
                rfl
              · rw [List.take_add_one, hws, List.map_append]
                exact stayPts (tups_put eD14) (awSnoc (F := fun r p => H14 r = some (.tup (pV p))) e14' (stayPts (Same.tups s314) hds))
              · intro i ws' hi hw'
                by_cases e : i = j
                · subst e
                  rw [hws] at hw'
                  obtain rfl := Option.some.inj hw'
                  exact okj
                · exact hok i ws' (by omega) hw'
              · intro b u e
                have nb : b ≠ Dl := fun z => by
                  rw [z, hDl] at e
                  cases e
                rw [upd_ne nb]
                exact s314 _ _ (s3 _ _ e)
          · have hno : ∀ q ∈ fwL, ¬ q.1 = xw := fun q hq e => hwd ⟨q.2, by rw [← e]; exact hq⟩
            have dg : DGet H9 p (.str xw) none := by
              have := DGet.k (k := Sum.inr xw) ep9
              rw [fw_none hno] at this
              exact this
            refine ⟨.ref aj, rfl, aj, _, 0, .str xw, rfl, rfl, SA, at0x, .ref p, rfl, p, none, rfl, dg, true, rfl, ?_⟩
            exact no2 j _ hws (deedB_no (p := pO (xw :: r)) hno) H9 (s08.trans s89)
        · obtain ⟨y1, y7, y8, ds, rfl, eM, eD, hds, hok, s3⟩ := h3
          rw [List.length_map, lam, List.take_length] at hds
          rw [List.length_map, lam] at hok
          have s03 := s08.trans s3
          have ld := awLen hds
          rw [List.length_map] at ld
          have noo : numB (m + (ms.length : Int)) (numO yl) = false → ∀ H', Same H H' → Q .non H' := fun hb => no (fun c => by
            rw [hC2] at c
            have c5 : (decide (1 ≤ m ∧ m ≤ 3) && (decide ((ms.map pO).length ≤ 8) && ((midB m (ms.map pO)).all id && numB (m + (ms.map pO).length) (numO yl)))) = true := c
            simp only [Bool.and_eq_true] at c5
            have z := c5.2.2.2
            rw [List.length_map, hb] at z
            cases z)
          have ofn := off_num (m := m + (ms.length : Int)) (w := yl) (by omega)
          cases ho : lnO yl with
          | none =>
            rw [ho] at ofn
            refine ⟨.non, rfl, true, rfl, noo ?_ H3 s03⟩
            have z : true = !numB (m + (ms.length : Int)) (numO yl) := ofn
            simpa using z
          | some o =>
            rw [ho] at ofn
            have ofn' : decide (m + (ms.length : Int) ≤ o) = !numB (m + (ms.length : Int)) (numO yl) := ofn
            obtain ⟨no_, o0⟩ := lnO_some ho
            refine ⟨.int o, rfl, false, rfl, .int o, rfl, .int m, rfl, .ref Dl, rfl, Dl, _, rfl, .inl (.inl (.inl eD)), m, _, rfl, rfl, o, _, rfl, rfl, _, rfl, ?_⟩
            rw [List.length_map, ld, ofn']
            cases hb : numB (m + (ms.length : Int)) (numO yl) with
            | false => exact noo hb H3 s03
            | true =>
              have hrow : rowB (some m) (ms.map pO) (numO yl) = true := by
                unfold rowB
                simp only [Bool.and_eq_true]
                refine ⟨decide_eq_true m13, decide_eq_true (by rw [List.length_map]; exact h8), midB_of fun k' p' hk' => ?_, by rw [List.length_map]; exact hb⟩
                rw [List.getElem?_map] at hk'
                obtain ⟨ws, hws, rfl⟩ := Option.map_eq_some_iff.mp hk'
                exact hok k' ws (List.getElem?_eq_some_iff.mp hws).1 hws
              have hrd : readS t = some ⟨m, midD (ms.map pO), o⟩ := by
                have hc : readC (partsO t) := by
                  rw [hpp, hC2]
                  exact hrow
                have z := read_some hc
                rw [hpp, eW] at z
                have el2 : ((([x0, y0] :: (ms ++ [[xl, yl]])).map pO).getLastD ("", [])) = pO [xl, yl] := by
                  rw [List.map_cons, List.map_append]
                  exact lastD _ _ _ _
                have em2 : ((([x0, y0] :: (ms ++ [[xl, yl]])).map pO).drop 1).dropLast = ms.map pO := by
                  rw [List.map_cons, List.map_append]
                  exact midL _ _ _
                rw [el2, em2] at z
                rw [z]
                show some (Rw.mk ((numO y0).getD 0) _ ((numO yl).getD 0)) = _
                rw [nm, no_]
                rfl
              obtain ⟨_, _, b3, _⟩ := rowB_ok hrow
              refine ⟨.int m, rfl, .ref Dl, rfl, Dl, _, rfl, .inl ⟨.inl (.inl eD), fun Z2 hZ2 => ?_⟩⟩
              have sZ2 := same_new (o := .tup (ds.map V.ref)) hZ2
              refine ⟨.int o, rfl, (by show 3 ≤ sizeLine; decide), fun Z hZ => ?_⟩
              have sZ := same_new (o := .tup [.int m, .ref Z2, .int o]) hZ
              refine qS _ hrd _ Z (s03.trans (sZ2.trans sZ)) ⟨Z2, ds, upd_same, sZ _ _ upd_same, ptsDs ?_⟩
              show PtsAt _ ds ((midD (ms.map pO)).map ptOf)
              rw [b3]
              exact stayPts (Same.tups (sZ2.trans sZ)) hds
/-! ### how long a row's text is -/
theorem rowS_len {r : Rw} (h : RwOk r) : (rowS r.m r.ds r.o).length ≤ 300 := by
  have m1 := h.m1
  have m3 := h.m3
  have o0 := h.o0
  have o1 := h.o1
  have h8 := h.len
  have hb := join_len "; " (partsS r.m r.ds r.o)
  have h1 : ∀ x ∈ (partsS r.m r.ds r.o).map Str.length, x ≤ 20 := by
    intro x hx
    obtain ⟨y, hy, rfl⟩ := List.mem_map.mp hx
    rcases List.mem_append.mp hy with hy | hy
    · rcases List.mem_cons.mp hy with rfl | hy
      · exact part_len (by decide +kernel) (by show 1 ≤ 2; decide) fun i hi => by rw [List.mem_singleton.mp hi]; omega
      · obtain ⟨d, hd', rfl⟩ := List.mem_map.mp hy
        obtain ⟨kk, hk⟩ := List.mem_iff_getElem?.mp hd'
        have := (List.getElem?_eq_some_iff.mp hk).1
        have := partOk_deed (h.deeds.each kk d hk) (by omega)
        exact part_len this.word this.few this.nums
    · rw [List.mem_singleton.mp hy]
      exact part_len (by decide +kernel) (by show 1 ≤ 2; decide) fun i hi => by rw [List.mem_singleton.mp hi]; omega
  have h2 := sum_le h1
  have h3 : ("; " : Str).length = 2 := by decide +kernel
  have h5 : (partsS r.m r.ds r.o).length = r.ds.length + 2 := by unfold partsS; simp
  rw [List.length_map, h5] at h2
  rw [h3, h5] at hb
  have h6 : tot (partsS r.m r.ds r.o) = ((partsS r.m r.ds r.o).map Str.length).sum := rfl
  rw [h6] at hb
  show (Txt.join "; " (partsS r.m r.ds r.o)).length ≤ 300
  omega
theorem lo_iS {i : Int} (h0 : 0 ≤ i) (h1 : i < 12) : Lo (iS i) := by
  obtain ⟨k, rfl⟩ := Int.eq_ofNat_of_zero_le h0
  have hj : k = 0 ∨ k = 1 ∨ k = 2 ∨ k = 3 ∨ k = 4 ∨ k = 5 ∨ k = 6 ∨ k = 7 ∨ k = 8 ∨ k = 9 ∨ k = 10 ∨ k = 11 := by omega
  rcases hj with rfl | rfl | rfl | rfl | rfl | rfl | rfl | rfl | rfl | rfl | rfl | rfl <;> exact lo_dec (by decide +kernel)
theorem lo_part {x : Str} {l : List Int} (hx : Lo x) (hl : ∀ i ∈ l, 0 ≤ i ∧ i < 12) : Lo (partS x l) := lo_join (lo_dec (by decide +kernel)) fun p hp => by
  rcases List.mem_cons.mp hp with rfl | hp
  · exact hx
  · obtain ⟨i, hi, rfl⟩ := List.mem_map.mp hp
    exact lo_iS (hl i hi).1 (hl i hi).2
theorem rowS_lo {r : Rw} (h : RwOk r) : Lo (rowS r.m r.ds r.o) := lo_join (lo_dec (by decide +kernel)) fun p hp => by
  have m1 := h.m1
  have m3 := h.m3
  have o0 := h.o0
  have o1 := h.o1
  have h8 := h.len
  rcases List.mem_append.mp hp with hp | hp
  · rcases List.mem_cons.mp hp with rfl | hp
    · exact lo_part (lo_dec (by decide +kernel)) fun i hi => by rw [List.mem_singleton.mp hi]; omega
    · obtain ⟨d, hd', rfl⟩ := List.mem_map.mp hp
      obtain ⟨kk, hk⟩ := List.mem_iff_getElem?.mp hd'
      have hkl := (List.getElem?_eq_some_iff.mp hk).1
      have ok := h.deeds.each kk d hk
      exact lo_part (lo_dec (fw_short _ ok.word).2.1) fun i hi => by have := ok.ahead i hi; omega
  · rw [List.mem_singleton.mp hp]
    exact lo_part (lo_dec (by decide +kernel)) fun i hi => by rw [List.mem_singleton.mp hi]; omega
/-! ### the law -/
theorem nice_non : Nice 0 0 .none := ⟨by simp only [PyData.showable], by simp only [PyData.leavesShort], by simp only [PyData.bulk, Nat.le_refl], by simp only [PyData.depth, Nat.le_refl]⟩
theorem nice_bl (b : Bool) : Nice 0 0 (.bool b) := ⟨by simp only [PyData.showable], by simp only [PyData.leavesShort], by simp only [PyData.bulk, Nat.le_refl], by simp only [PyData.depth, Nat.le_refl]⟩
theorem nice_d1 {t : Str} {n : Nat} (h : t.cps.size ≤ n) (ho : Lo t) : Nice (n + 2) 1 (.dict [(PyData.str t, PyData.int 1)]) := by
  obtain ⟨i1, i2, i3, i4⟩ := nice_int (i := 1) (by decide)
  obtain ⟨s1, s2, s3, s4⟩ := nice_str h ho.all
  have k1 : PyData.showableKv [(PyData.str t, PyData.int 1)] = true := by simp only [PyData.showableKv, i1, s1, Bool.and_self]
  have k2 : PyData.leavesShortKv 21 [(PyData.str t, PyData.int 1)] = true := by simp only [PyData.leavesShortKv, i2, s2, Bool.and_self]
  refine ⟨by rw [PyData.showable]; exact k1, by rw [PyData.leavesShort]; exact k2, ?_, ?_⟩
  · rw [PyData.bulk, PyData.bulkKv, PyData.bulkKv]
    omega
  · rw [PyData.depth, PyData.depthKv, PyData.depthKv]
    omega
/-- a thing that is no text and is shown -/
def Thing (K : PySem.W.Frag) (H : Hp) (v : V) : Prop := ∃ d : PyData, (∀ (X : Cx) (H' : Hp), Same H H' → Rz X H' v d ∨ (Dp X.K H' v d ∧ d.hasDict = false)) ∧ d.showable = true ∧ d.depth ≤ 40 ∧ d.shown.length ≤ sizeLine ∧ NoStr K H v
theorem thing_of {H : Hp} {v : V} {d : PyData} {n k : Nat} (hz : ∀ (X : Cx) (H' : Hp), Same H H' → Rz X H' v d ∨ (Dp X.K H' v d ∧ d.hasDict = false)) (hn : Nice n k d) (h1 : n ≤ 100000) (h2 : k ≤ 40) (hs : NoStr K H v) : Thing K H v :=
  ⟨d, hz, hn.sh, Nat.le_trans hn.dp h2, hn.fits h1, hs⟩
theorem things {H : Hp} {t : Str} {A1 A2 A3 A4 : Addr} (hl : t.length ≤ 50000) (ho : Lo t) (e1 : H A1 = some (.tup [.str t])) (e2 : H A2 = some (.lst [.str t])) (e3 : H A3 = some (.dK (siK [(t, 1)]))) (e4 : H A4 = some (.tup [])) {z : Int} (z0 : 0 ≤ z) (z1 : z < 8) :
    ∃ v, atI [V.non, .int 5, .bl true, .ref A1, .ref A2, .ref A3, .ref A4, .int 0] z = some v ∧ Thing K H v := by
  have hj : z = 0 ∨ z = 1 ∨ z = 2 ∨ z = 3 ∨ z = 4 ∨ z = 5 ∨ z = 6 ∨ z = 7 := by omega
  have nt : Nice 50000 0 (.str t) := nice_str hl ho.all
  have n1 : ∀ x ∈ [PyData.str t], Nice 50000 0 x := fun x hx => by
    rw [List.mem_singleton.mp hx]
    exact nt
  rcases hj with rfl | rfl | rfl | rfl | rfl | rfl | rfl | rfl
  · exact ⟨_, rfl, thing_of (fun X H' _ => .inr ⟨.non, by simp only [PyData.hasDict]⟩) nice_non (by decide) (by decide) ⟨_, .base .non, by decide +kernel⟩⟩
  · exact ⟨_, rfl, thing_of (fun X H' _ => .inl (Rz.int H' 5)) (nice_int (by decide)) (by decide) (by decide) ⟨_, .base (.int 5), by decide +kernel⟩⟩
  · exact ⟨_, rfl, thing_of (fun X H' _ => .inr ⟨.bl true, by simp only [PyData.hasDict]⟩) (nice_bl true) (by decide) (by decide) ⟨_, .base (.bl true), by decide +kernel⟩⟩
  · exact ⟨_, rfl, thing_of (fun X H' s => .inl (Rz.tup (SqT.of (s _ _ e1)) (.cons (Rz.str H' t) .nil))) (nice_tup n1 (by show 1 * (50000 + 1) ≤ 50001; decide)) (by decide) (by decide) ⟨_, .base (.tup e1), by decide +kernel⟩⟩
  · exact ⟨_, rfl, thing_of (fun X H' s => .inr ⟨.lst (.inl (.inl (s _ _ e2))) (.cons (.str t) .nil), by simp only [PyData.hasDict, PyData.hasDictAll, Bool.or_self]⟩) (nice_lst n1 (by show 1 * (50000 + 1) ≤ 50001; decide)) (by decide) (by decide) ⟨_, .base (.lst e2), by decide +kernel⟩⟩
  · exact ⟨_, rfl, thing_of (fun X H' s => .inl (rz_dict (es := [(t, 1)]) (s _ _ e3))) (nice_d1 (n := 50000) hl ho) (by decide) (by decide) ⟨_, .base (.dK e3), by decide +kernel⟩⟩
  · exact ⟨_, rfl, thing_of (fun X H' s => .inl (Rz.tup (SqT.of (s _ _ e4)) .nil)) (nice_tup (b := 0) (k := 0) (n := 0) (fun _ z => nomatch z) (by decide)) (by decide) (by decide) ⟨_, .base (.tup e4), by decide +kernel⟩⟩
  · exact ⟨_, rfl, thing_of (fun X H' _ => .inl (Rz.int H' 0)) (nice_int (by decide)) (by decide) (by decide) ⟨_, .base (.int 0), by decide +kernel⟩⟩
def Bd : Nat → Nat
  | 0 => 300
  | n + 1 => 7 * Bd n + 4000
theorem timesAt {z : Int} (z0 : 0 ≤ z) (z1 : z < 8) : ∃ n : Nat, n ≤ 2 ∧ atI [V.int 0, .int 1, .int 1, .int 1, .int 1, .int 1, .int 2, .int 2] z = some (.int (n : Int)) := by
  have hj : z = 0 ∨ z = 1 ∨ z = 2 ∨ z = 3 ∨ z = 4 ∨ z = 5 ∨ z = 6 ∨ z = 7 := by omega
  rcases hj with rfl | rfl | rfl | rfl | rfl | rfl | rfl | rfl
  · exact ⟨0, by decide, rfl⟩
  · exact ⟨1, by decide, rfl⟩
  · exact ⟨1, by decide, rfl⟩
  · exact ⟨1, by decide, rfl⟩
  · exact ⟨1, by decide, rfl⟩
  · exact ⟨1, by decide, rfl⟩
  · exact ⟨2, by decide, rfl⟩
  · exact ⟨2, by decide, rfl⟩
set_option maxHeartbeats 4000000 in
theorem law_run {fa fWe fDr fRo fTx fBt fRf fLr fRr cT : Addr} {fd fdWe fdDr fdRo fdTx fdBt fdRf fdLr fdRr : FuncData} {s : Shared} {a : Addr} {ns : List Int} {H : Hp} (F : Fun K "law" "law" s_law fa fd) (bL : Binds K fd ["script"] [])
    (GW : FnOk P w K mg base CX0 1 fWe fdWe ["script"] (spWell K)) (kW : PySem.W.keepIn K (.ref fWe) = true) (bW : Binds K fdWe ["script"] []) (gW : mg "_law_well" = some (.ref fWe))
    (GD : FnOk P w K mg base CX0 1 fDr fdDr ["well", "many"] spDraw) (kD : PySem.W.keepIn K (.ref fDr) = true) (bD : Binds K fdDr ["well", "many"] []) (gD : mg "_law_draw" = some (.ref fDr))
    (GR : FnOk P w K mg base CX0 3 fRo fdRo ["well", "many", "most"] spRow) (kR : PySem.W.keepIn K (.ref fRo) = true) (bR : Binds K fdRo ["well", "many", "most"] []) (gR : mg "_law_row" = some (.ref fRo))
    (GT : FnOk P w K mg base CX0 1 fTx fdTx ["row"] spShow) (kT : PySem.W.keepIn K (.ref fTx) = true) (bT : Binds K fdTx ["row"] []) (gT : mg "_law_text" = some (.ref fTx))
    (GB : FnOk P w K mg base CX0 2 fBt fdBt ["well", "text"] spBt) (kB : PySem.W.keepIn K (.ref fBt) = true) (bB : Binds K fdBt ["well", "text"] []) (gB : mg "_law_bent_text" = some (.ref fBt))
    (GF : FnG P w K mg base 7 fRf fdRf ["thing"] (spRf K)) (kF : PySem.W.keepIn K (.ref fRf) = true) (bF : Binds K fdRf ["thing"] []) (gF : mg "_law_refused" = some (.ref fRf))
    (GL : FnOk P w K mg base CX0 2 fLr fdLr ["text"] spLr) (kL : PySem.W.keepIn K (.ref fLr) = true) (bLr : Binds K fdLr ["text"] []) (gL : mg "_law_read" = some (.ref fLr))
    (GX : FnOk P w K mg base (L2.CX P w) 6 fRr fdRr ["text"] (spRr cT)) (kX : PySem.W.keepIn K (.ref fRr) = true) (bX : Binds K fdRr ["text"] []) (gX : mg "read_row" = some (.ref fRr))
    (mr : mg "range" = none) (mp : mg "repr" = none) (hlen : ns.length ≤ 63) (hbits : ∀ z ∈ ns, Builtin.Int.intBits z ≤ 1048576) (e0 : Env0 P w K mg base callerA [] s H) (hS : SqL K H a (ns.map V.int)) :
    codeAny (model P w) callerA (.call (.ref fa) ⟨[.ref a], []⟩) (CR CX0 [] P w H s (fun v _ => v = .bl true) E0) s := by
  refine fn_at (k := 8) (us := [.ref a]) (vs := [.ref a]) F sc_law ⟨rfl, by decide, by decide⟩ e0 ?_ (.cons rfl .nil) rfl (fun cdv => ?_)
  · have := bL s [.ref a] (e0.mod.kin.keeps fun b o e => (e0.bs b o e).1) rfl
    simpa using this
  have hr : Room 8 (callerA.deeper (envOfC "law" (defScope s_law) s.heap.objs.size fa cdv)) := Room.deeper (k := 8) ⟨rfl, by decide, by decide⟩ _
  have hg : (callerA.deeper (envOfC "law" (defScope s_law) s.heap.objs.size fa cdv)).guards = some [] := rfl
  have R1 := hr.mono (show 1 ≤ 8 by decide)
  have R2 := hr.mono (show 2 ≤ 8 by decide)
  have R3 := hr.mono (show 3 ≤ 8 by decide)
  have R6 := hr.mono (show 6 ≤ 8 by decide)
  have R7 := hr.mono (show 7 ≤ 8 by decide)
  refine ⟨_, pss_cons (ps_set (i := 1) sc_law.nd rfl (.inl rfl) (pe_call GW R1 (by rfl) gW kW bW .nil pass0 (pa_cons (pv 0) pa_nil)))
    (pss_cons (ps_for PassesOwn.never rfl (pi_range1 (by rfl) mr (pa_cons pe_int pa_nil)) (pg_name (i := 2) sc_law.nd rfl (.inl rfl))
      (pss_cons (ps_set (i := 3) sc_law.nd rfl (.inl rfl) (pe_ix ix_list (pe_lst (pa_cons pe_int (pa_cons pe_int (pa_cons pe_int (pa_cons pe_int (pa_cons pe_int (pa_cons pe_int (pa_cons pe_int (pa_cons pe_int pa_nil))))))))) (pe_call GD R1 (by rfl) gD kD bD .nil pass0 (pa_cons (pv 1) (pa_cons pe_int pa_nil))) (fun _ _ => rfl)))
      (pss_cons (ps_set (i := 4) sc_law.nd rfl (.inl rfl) (pe_call GD R1 (by rfl) gD kD bD .nil pass0 (pa_cons (pv 1) (pa_cons pe_int pa_nil))))
      (pss_cons (ps_set (i := 5) sc_law.nd rfl (.inl rfl) (pe_call GT R1 (by rfl) gT kT bT .nil pass0 (pa_cons (pe_call GR R3 (by rfl) gR kR bR .nil pass0 (pa_cons (pv 1) (pa_cons (pe_op op_add pe_int (pe_call GD R1 (by rfl) gD kD bD .nil pass0 (pa_cons (pv 1) (pa_cons pe_int pa_nil)))) (pa_cons pe_int pa_nil)))) pa_nil)))
      (pss_cons (ps_for PassesOwn.never rfl (pi_range1 (by rfl) mr (pa_cons (pv 3) pa_nil)) (pg_name (i := 6) sc_law.nd rfl (.inl rfl)) (pss_one (ps_set (i := 5) sc_law.nd rfl (.inl rfl) (pe_call GB R2 (by rfl) gB kB bB .nil pass0 (pa_cons (pv 1) (pa_cons (pv 5) pa_nil))))))
      (pss_mid (ps_if (pt_cmpR op_eq (pv 4) pe_int (nomark _))
        (pss_cons (ps_set (i := 7) sc_law.nd rfl (.inl rfl) (pe_ix ix_list (pe_lst (pa_cons pe_non (pa_cons pe_int (pa_cons pe_bl (pa_cons (pe_tup (pa_cons (pv 5) pa_nil)) (pa_cons (pe_lst (pa_cons (pv 5) pa_nil)) (pa_cons (pe_disp (pps_cons (pv 5) pe_int pps_nil) (by rfl) (by rfl) (fun z => by cases z) (by decide)) (pa_cons (pe_tup pa_nil) (pa_cons pe_int pa_nil))))))))) (pe_call GD R1 (by rfl) gD kD bD .nil pass0 (pa_cons (pv 1) (pa_cons pe_int pa_nil))) (fun _ _ => rfl)))
        (pss_one (ps_if (pt_not (pt_val (pe_callG GF R7 hg (by rfl) gF kF bF (pa_cons (pv 7) pa_nil)))) (pss_one (ps_ret pe_bl)) pss_nil))) pss_nil)
      (pss_cons (ps_set (i := 8) sc_law.nd rfl (.inl rfl) (pe_call GL R2 (by rfl) gL kL bLr .nil pass0 (pa_cons (pv 5) pa_nil)))
      (pss_cons (ps_if (PW.pt (pw_and (pt_cmp (pc_isN (pv 8))) (pw_and1 (pt_not (pt_val (pe_callG GF R7 hg (by rfl) gF kF bF (pa_cons (pv 5) pa_nil))))))) (pss_one (ps_ret pe_bl)) pss_nil)
      (pss_one (ps_if (PW.pt (pw_and (pt_cmp (pc_notN (pv 8))) (pw_and1 (pt_cmpR op_ne (pe_callB (call_repr hg hr.units) (by rfl) mp (by decide +kernel) (pa_cons (pe_call GX R6 (by rfl) gX kX bX .nil passL (pa_cons (pv 5) pa_nil)) pa_nil)) (pe_callB (call_repr hg hr.units) (by rfl) mp (by decide +kernel) (pa_cons (pv 8) pa_nil)) (nomark _))))) (pss_one (ps_ret pe_bl)) pss_nil))))))))))
    (pss_one (ps_ret pe_bl))), ?_⟩
  refine ⟨.ref a, rfl, a, ns, rfl, hS, hlen, hbits, fun H1 p c s1 hp hc w1 => ?_⟩
  refine ⟨8, rfl, by decide, by decide, for_range (lo := 0) (n := 8) (fun i σ H3 => (∃ y2 y3 y4 y5 y6 y7 y8, σ = [some (.ref a), some (.ref p), y2, y3, y4, y5, y6, y7, y8]) ∧ WL H3 p c) ⟨⟨none, none, none, none, none, none, none, rfl⟩, w1⟩ (fun i σ H3 hi hp => ?_) (fun σ H3 hp => rfl)⟩
  obtain ⟨⟨y2, y3, y4, y5, y6, y7, y8, rfl⟩, w3⟩ := hp
  refine ⟨(by show 8 ≤ sizeLine; decide), fun M hM => ⟨.ref p, rfl, p, c, 8, rfl, by decide, by decide, w3.same (same_new hM), fun H4 z z0 z1 w4 k4 => ?_⟩⟩
  obtain ⟨nMp, nMc⟩ := w3.ne_new hM
  obtain ⟨n, hn2, hat⟩ := timesAt z0 z1
  refine ⟨M, _, z, .int (n : Int), rfl, rfl, .inl (.inl (k4 _ _ nMp nMc upd_same)), hat, ?_⟩
  refine ⟨.ref p, rfl, p, c, 12, rfl, by decide, by decide, w4, fun H5 nn nn0 nn1 w5 k5 => ?_⟩
  refine ⟨.ref p, rfl, .ref p, rfl, p, c, 3, rfl, by decide, by decide, w5, fun H6 zm zm0 zm1 w6 k6 => ?_⟩
  refine ⟨1, zm, rfl, rfl, p, c, 1 + zm, 8, rfl, by omega, by omega, by decide, by decide, w6, fun H7 R ds o hrow hok hl8 w7 k7 => ?_⟩
  obtain ⟨r0, hr0⟩ : ∃ r0 : Rw, r0 = ⟨1 + zm, ds, o⟩ := ⟨_, rfl⟩
  have rok : RwOk r0 := by rw [hr0]; exact hok
  have hR7 : RwAt H7 R r0 := by rw [hr0]; exact hrow
  refine ⟨R, r0.m, r0.o, r0.ds, rfl, hR7, rok, fun H8 s8 => ?_⟩
  obtain ⟨t0, ht0⟩ : ∃ t0, t0 = rowS r0.m r0.ds r0.o := ⟨_, rfl⟩
  rw [← ht0]
  have l0 : t0.length ≤ 300 := by rw [ht0]; exact rowS_len rok
  have lo0 : Lo t0 := by rw [ht0]; exact rowS_lo rok
  have w8 := w7.same s8
  refine ⟨.int (n : Int), rfl, n, rfl, by omega, by omega, ?_⟩
  refine for_range (lo := 0) (n := ((n : Int)).toNat) (fun j σ H9 => ∃ (t : Str) (x6 : Option V), σ = [some (.ref a), some (.ref p), some (.int (0 + (i : Int))), some (.int (n : Int)), some (.int nn), some (.str t), x6, y7, y8] ∧ t.length ≤ Bd j ∧ Lo t ∧ WL H9 p c) ⟨t0, _, rfl, l0, lo0, w8⟩ (fun j σ H9 hj h9 => ?_) (fun σ H9 h9 => ?_)
  · obtain ⟨t, x6, rfl, hl, hlo, w9⟩ := h9
    have hj1 : j = 0 ∨ j = 1 := by omega
    have hB : Bd j ≤ 6100 := by rcases hj1 with rfl | rfl <;> decide
    refine ⟨.ref p, rfl, .str t, rfl, p, c, t, rfl, by omega, hlo, w9, fun H10 t' hl' ho' w10 k10 => ?_⟩
    refine ⟨t', _, rfl, ?_, ho', w10⟩
    show t'.length ≤ 7 * Bd j + 4000
    omega
  obtain ⟨t, x6, rfl, hl, hlo, w9⟩ := h9
  have hl2 : t.length ≤ 46700 := by
    have hn' : n = 0 ∨ n = 1 ∨ n = 2 := by omega
    have : Bd ((n : Int)).toNat ≤ 46700 := by rcases hn' with rfl | rfl | rfl <;> decide
    omega
  refine ⟨fun σ H' => ∃ x7, σ = [some (.ref a), some (.ref p), some (.int (0 + (i : Int))), some (.int (n : Int)), some (.int nn), some (.str t), x6, x7, y8] ∧ WL H' p c, ?_, ?_⟩
  · refine ⟨.int nn, rfl, rfl, _, rfl, ite2 (fun _ => ?_) (fun _ => ⟨y7, rfl, w9⟩)⟩
    refine ⟨.str t, rfl, (by show 1 ≤ sizeLine; decide), fun A1 hA1 => ⟨.str t, rfl, (by show 1 ≤ sizeLine; decide), fun A2 hA2 => fun A3 hA3 => ⟨.str t, rfl, upd_same, [(Sum.inr t, .int 1)], rfl, (by show 1 ≤ 15; decide), Nat.zero_le _, fun A4 hA4 => ⟨(by show 8 ≤ sizeLine; decide), fun B hB => ?_⟩⟩⟩⟩
    have emk : mergeK [] [((Sum.inr t : Key), V.int 1)] = siK [(t, 1)] := rfl
    rw [emk, upd_upd] at hB hA4 ⊢
    have sA1 := same_new (o := .tup [.str t]) hA1
    have sA2 := same_new (o := .lst [.str t]) hA2
    have sA3 := same_new (o := .dK (siK [(t, 1)])) hA3
    have sA4 := same_new (o := .tup []) hA4
    have sB := same_new (o := .lst [V.non, .int 5, .bl true, .ref A1, .ref A2, .ref A3, .ref A4, .int 0]) hB
    have sAll := sA1.trans (sA2.trans (sA3.trans (sA4.trans sB)))
    obtain ⟨q1, q2⟩ := w9.ne_new hA1
    obtain ⟨q3, q4⟩ := (w9.same sA1).ne_new hA2
    obtain ⟨q5, q6⟩ := (w9.same (sA1.trans sA2)).ne_new hA3
    obtain ⟨q7, q8⟩ := (w9.same (sA1.trans (sA2.trans sA3))).ne_new hA4
    obtain ⟨q9, q10⟩ := (w9.same (sA1.trans (sA2.trans (sA3.trans sA4)))).ne_new hB
    refine ⟨.ref p, rfl, p, c, 8, rfl, by decide, by decide, w9.same sAll, fun H10 zz zz0 zz1 w10 k10 => ?_⟩
    obtain ⟨v, hv, d, hz, h1, h2, h3, hns⟩ := things (K := K) (H := H10) (t := t) (A1 := A1) (A2 := A2) (A3 := A3) (A4 := A4) (by omega) hlo
      (k10 _ _ q1 q2 (sB _ _ (sA4 _ _ (sA3 _ _ (sA2 _ _ upd_same))))) (k10 _ _ q3 q4 (sB _ _ (sA4 _ _ (sA3 _ _ upd_same)))) (k10 _ _ q5 q6 (sB _ _ (sA4 _ _ upd_same))) (k10 _ _ q7 q8 (sB _ _ upd_same)) zz0 zz1
    refine ⟨B, _, zz, v, rfl, rfl, .inl (.inl (k10 _ _ q9 q10 upd_same)), hv, ?_⟩
    exact ⟨v, rfl, v, d, rfl, hz, h1, h2, h3, .inr hns, fun H11 s11 => ⟨true, rfl, some v, rfl, w10.same s11⟩⟩
  rintro σ10 H10 ⟨x7, rfl, w10⟩
  refine ⟨.str t, rfl, t, rfl, by omega, fun r hr' H11 Z s11 hZ => ?_, fun hn H11 s11 => ?_⟩
  · obtain ⟨ok1, _⟩ := read_back hr'
    have nice := nice_row ok1
    refine ⟨.ref Z, rfl, false, rfl, ?_⟩
    refine ⟨.ref Z, rfl, true, rfl, .str t, rfl, t, rfl, by omega, fun r2 hr2 H12 Z2 s12 hZ2 => ?_, fun hn => by rw [hr'] at hn; cases hn⟩
    obtain rfl : r = r2 := by rw [hr'] at hr2; exact Option.some.inj hr2
    refine ⟨.ref Z2, _, rfl, .inl (rz_row hZ2), nice.sh, Nat.le_trans nice.dp (by decide), nice.fits (by decide), ?_⟩
    refine ⟨.ref Z, rfl, .ref Z, _, rfl, .inl (rz_row ((Same.tups s12).row hZ)), nice.sh, Nat.le_trans nice.dp (by decide), nice.fits (by decide), ?_⟩
    exact ⟨rfl, _, rfl, iteNS rfl ⟨⟨_, _, _, _, _, _, _, rfl⟩, w10.same (s11.trans s12)⟩⟩
  · have nt : Nice 50000 0 (.str t) := nice_str (show t.cps.size ≤ 50000 from Nat.le_trans hl2 (by decide)) hlo.all
    refine ⟨.non, rfl, true, rfl, .str t, rfl, .str t, .str t, rfl, fun X H' _ => .inl (Rz.str H' t), nt.sh, Nat.le_trans nt.dp (by decide), nt.fits (by decide), .inl ⟨t, rfl, by omega, hn⟩, fun H12 s12 => ⟨true, rfl, ?_⟩⟩
    exact ⟨.non, rfl, false, rfl, ⟨_, _, _, _, _, _, _, rfl⟩, w10.same (s11.trans s12)⟩
/-! ### what the top has written -/
theorem all_mk {l : PySem.W.OpenLaw} {w : World} {K : PySem.W.Frag} {h : Heap} {mg : Str → Option Value} {fa : Addr} (X : K.In h) (G : h.Ns mainGlobals mg) (hfa : mg "law" = some (.ref fa))
    {f0 : Addr} {od0 an0 : Option Addr} {sl0 : Array (Option Value)} {oc0 kV0 dc0 pm0 cd0 ct0 : Value}
    {f1 : Addr} {od1 an1 : Option Addr} {sl1 : Array (Option Value)} {oc1 kV1 dc1 pm1 cd1 ct1 : Value}
    {f2 : Addr} {od2 an2 : Option Addr} {sl2 : Array (Option Value)} {oc2 kV2 dc2 pm2 cd2 ct2 : Value}
    {f3 : Addr} {od3 an3 : Option Addr} {sl3 : Array (Option Value)} {oc3 kV3 dc3 pm3 cd3 ct3 : Value}
    {f4 : Addr} {od4 an4 : Option Addr} {sl4 : Array (Option Value)} {oc4 kV4 dc4 pm4 cd4 ct4 : Value}
    {f5 : Addr} {od5 an5 : Option Addr} {sl5 : Array (Option Value)} {oc5 kV5 dc5 pm5 cd5 ct5 : Value}
    {f6 : Addr} {od6 an6 : Option Addr} {sl6 : Array (Option Value)} {oc6 kV6 dc6 pm6 cd6 ct6 : Value}
    {f7 : Addr} {od7 an7 : Option Addr} {sl7 : Array (Option Value)} {oc7 kV7 dc7 pm7 cd7 ct7 : Value}
    {f8 : Addr} {od8 an8 : Option Addr} {sl8 : Array (Option Value)} {oc8 kV8 dc8 pm8 cd8 ct8 : Value}
    {f9 : Addr} {od9 an9 : Option Addr} {sl9 : Array (Option Value)} {oc9 kV9 dc9 pm9 cd9 ct9 : Value}
    {f10 : Addr} {od10 an10 : Option Addr} {sl10 : Array (Option Value)} {oc10 kV10 dc10 pm10 cd10 ct10 : Value}
    {f11 : Addr} {od11 an11 : Option Addr} {sl11 : Array (Option Value)} {oc11 kV11 dc11 pm11 cd11 ct11 : Value}
    {f12 : Addr} {od12 an12 : Option Addr} {sl12 : Array (Option Value)} {oc12 kV12 dc12 pm12 cd12 ct12 : Value}
    {f13 : Addr} {od13 an13 : Option Addr} {sl13 : Array (Option Value)} {oc13 kV13 dc13 pm13 cd13 ct13 : Value}
    {f14 : Addr} {od14 an14 : Option Addr} {sl14 : Array (Option Value)} {oc14 kV14 dc14 pm14 cd14 ct14 : Value}
    {f15 : Addr} {od15 an15 : Option Addr} {sl15 : Array (Option Value)} {oc15 kV15 dc15 pm15 cd15 ct15 : Value}
    {f16 : Addr} {od16 an16 : Option Addr} {sl16 : Array (Option Value)} {oc16 kV16 dc16 pm16 cd16 ct16 : Value}
    {f17 : Addr} {od17 an17 : Option Addr} {sl17 : Array (Option Value)} {oc17 kV17 dc17 pm17 cd17 ct17 : Value}
    {f18 : Addr} {od18 an18 : Option Addr} {sl18 : Array (Option Value)} {oc18 kV18 dc18 pm18 cd18 ct18 : Value}
    {f19 : Addr} {od19 an19 : Option Addr} {sl19 : Array (Option Value)} {oc19 kV19 dc19 pm19 cd19 ct19 : Value}
    {t_MOST_DEEDS : Tok}
    {t_MOST_INPUTS : Tok}
    {t_MOST_FIGURES : Tok}
    {t_FIGURES : Tok}
    {pl_PLACES : Addr} {es_PLACES : Array DictEntry} {n_PLACES : Nat}
    {pt0_PLACES : Tok} {pt1_PLACES : Tok} {pt2_PLACES : Tok} {pt3_PLACES : Tok} {pt4_PLACES : Tok} {pt5_PLACES : Tok} {pt6_PLACES : Tok} {pt7_PLACES : Tok} {pt8_PLACES : Tok} {pt9_PLACES : Tok} {pt10_PLACES : Tok}
    {cWideError : Addr}
    {cNoRow : Addr}
    {cNoPair : Addr}
    {cNoRule : Addr}
    {cNoName : Addr}
    {cNoText : Addr}
    {cTooMany : Addr}
    {cNothing : Addr}
    (a0 : PySem.W.nsIn K mainGlobals "is_whole" = some (some (.ref f0)))
    (l0 : K.lookup f0 = some ⟨oc0, od0, .func (PySem.W.fnOf "is_whole" "is_whole" (defArgs s_is_whole) (defBody s_is_whole) (defScope s_is_whole) .none kV0 dc0 pm0 an0 cd0 ct0), sl0⟩)
    (c0 : PySem.W.codeIn K cd0 "is_whole" = true) (k0 : PySem.W.keepIn K (.ref f0) = true)
    (a1 : PySem.W.nsIn K mainGlobals "is_number_below" = some (some (.ref f1)))
    (l1 : K.lookup f1 = some ⟨oc1, od1, .func (PySem.W.fnOf "is_number_below" "is_number_below" (defArgs s_is_number_below) (defBody s_is_number_below) (defScope s_is_number_below) .none kV1 dc1 pm1 an1 cd1 ct1), sl1⟩)
    (c1 : PySem.W.codeIn K cd1 "is_number_below" = true) (k1 : PySem.W.keepIn K (.ref f1) = true)
    (a2 : PySem.W.nsIn K mainGlobals "is_deed" = some (some (.ref f2)))
    (l2 : K.lookup f2 = some ⟨oc2, od2, .func (PySem.W.fnOf "is_deed" "is_deed" (defArgs s_is_deed) (defBody s_is_deed) (defScope s_is_deed) .none kV2 dc2 pm2 an2 cd2 ct2), sl2⟩)
    (c2 : PySem.W.codeIn K cd2 "is_deed" = true) (k2 : PySem.W.keepIn K (.ref f2) = true)
    (a3 : PySem.W.nsIn K mainGlobals "are_deeds" = some (some (.ref f3)))
    (l3 : K.lookup f3 = some ⟨oc3, od3, .func (PySem.W.fnOf "are_deeds" "are_deeds" (defArgs s_are_deeds) (defBody s_are_deeds) (defScope s_are_deeds) .none kV3 dc3 pm3 an3 cd3 ct3), sl3⟩)
    (c3 : PySem.W.codeIn K cd3 "are_deeds" = true) (k3 : PySem.W.keepIn K (.ref f3) = true)
    (a4 : PySem.W.nsIn K mainGlobals "is_row" = some (some (.ref f4)))
    (l4 : K.lookup f4 = some ⟨oc4, od4, .func (PySem.W.fnOf "is_row" "is_row" (defArgs s_is_row) (defBody s_is_row) (defScope s_is_row) .none kV4 dc4 pm4 an4 cd4 ct4), sl4⟩)
    (c4 : PySem.W.codeIn K cd4 "is_row" = true) (k4 : PySem.W.keepIn K (.ref f4) = true)
    (a5 : PySem.W.nsIn K mainGlobals "read_number" = some (some (.ref f5)))
    (l5 : K.lookup f5 = some ⟨oc5, od5, .func (PySem.W.fnOf "read_number" "read_number" (defArgs s_read_number) (defBody s_read_number) (defScope s_read_number) .none kV5 dc5 pm5 an5 cd5 ct5), sl5⟩)
    (c5 : PySem.W.codeIn K cd5 "read_number" = true) (k5 : PySem.W.keepIn K (.ref f5) = true)
    (a6 : PySem.W.nsIn K mainGlobals "read_part" = some (some (.ref f6)))
    (l6 : K.lookup f6 = some ⟨oc6, od6, .func (PySem.W.fnOf "read_part" "read_part" (defArgs s_read_part) (defBody s_read_part) (defScope s_read_part) .none kV6 dc6 pm6 an6 cd6 ct6), sl6⟩)
    (c6 : PySem.W.codeIn K cd6 "read_part" = true) (k6 : PySem.W.keepIn K (.ref f6) = true)
    (a7 : PySem.W.nsIn K mainGlobals "read_row" = some (some (.ref f7)))
    (l7 : K.lookup f7 = some ⟨oc7, od7, .func (PySem.W.fnOf "read_row" "read_row" (defArgs s_read_row) (defBody s_read_row) (defScope s_read_row) .none kV7 dc7 pm7 an7 cd7 ct7), sl7⟩)
    (c7 : PySem.W.codeIn K cd7 "read_row" = true) (k7 : PySem.W.keepIn K (.ref f7) = true)
    (a8 : PySem.W.nsIn K mainGlobals "_law_well" = some (some (.ref f8)))
    (l8 : K.lookup f8 = some ⟨oc8, od8, .func (PySem.W.fnOf "_law_well" "_law_well" (defArgs s_law_well) (defBody s_law_well) (defScope s_law_well) .none kV8 dc8 pm8 an8 cd8 ct8), sl8⟩)
    (c8 : PySem.W.codeIn K cd8 "_law_well" = true) (k8 : PySem.W.keepIn K (.ref f8) = true)
    (a9 : PySem.W.nsIn K mainGlobals "_law_draw" = some (some (.ref f9)))
    (l9 : K.lookup f9 = some ⟨oc9, od9, .func (PySem.W.fnOf "_law_draw" "_law_draw" (defArgs s_law_draw) (defBody s_law_draw) (defScope s_law_draw) .none kV9 dc9 pm9 an9 cd9 ct9), sl9⟩)
    (c9 : PySem.W.codeIn K cd9 "_law_draw" = true) (k9 : PySem.W.keepIn K (.ref f9) = true)
    (a10 : PySem.W.nsIn K mainGlobals "_law_first_words" = some (some (.ref f10)))
    (l10 : K.lookup f10 = some ⟨oc10, od10, .func (PySem.W.fnOf "_law_first_words" "_law_first_words" (defArgs s_law_first_words) (defBody s_law_first_words) (defScope s_law_first_words) .none kV10 dc10 pm10 an10 cd10 ct10), sl10⟩)
    (c10 : PySem.W.codeIn K cd10 "_law_first_words" = true) (k10 : PySem.W.keepIn K (.ref f10) = true)
    (a11 : PySem.W.nsIn K mainGlobals "_law_deed" = some (some (.ref f11)))
    (l11 : K.lookup f11 = some ⟨oc11, od11, .func (PySem.W.fnOf "_law_deed" "_law_deed" (defArgs s_law_deed) (defBody s_law_deed) (defScope s_law_deed) .none kV11 dc11 pm11 an11 cd11 ct11), sl11⟩)
    (c11 : PySem.W.codeIn K cd11 "_law_deed" = true) (k11 : PySem.W.keepIn K (.ref f11) = true)
    (a12 : PySem.W.nsIn K mainGlobals "_law_row" = some (some (.ref f12)))
    (l12 : K.lookup f12 = some ⟨oc12, od12, .func (PySem.W.fnOf "_law_row" "_law_row" (defArgs s_law_row) (defBody s_law_row) (defScope s_law_row) .none kV12 dc12 pm12 an12 cd12 ct12), sl12⟩)
    (c12 : PySem.W.codeIn K cd12 "_law_row" = true) (k12 : PySem.W.keepIn K (.ref f12) = true)
    (a13 : PySem.W.nsIn K mainGlobals "_law_text" = some (some (.ref f13)))
    (l13 : K.lookup f13 = some ⟨oc13, od13, .func (PySem.W.fnOf "_law_text" "_law_text" (defArgs s_law_text) (defBody s_law_text) (defScope s_law_text) .none kV13 dc13 pm13 an13 cd13 ct13), sl13⟩)
    (c13 : PySem.W.codeIn K cd13 "_law_text" = true) (k13 : PySem.W.keepIn K (.ref f13) = true)
    (a14 : PySem.W.nsIn K mainGlobals "_law_number" = some (some (.ref f14)))
    (l14 : K.lookup f14 = some ⟨oc14, od14, .func (PySem.W.fnOf "_law_number" "_law_number" (defArgs s_law_number) (defBody s_law_number) (defScope s_law_number) .none kV14 dc14 pm14 an14 cd14 ct14), sl14⟩)
    (c14 : PySem.W.codeIn K cd14 "_law_number" = true) (k14 : PySem.W.keepIn K (.ref f14) = true)
    (a15 : PySem.W.nsIn K mainGlobals "_law_read" = some (some (.ref f15)))
    (l15 : K.lookup f15 = some ⟨oc15, od15, .func (PySem.W.fnOf "_law_read" "_law_read" (defArgs s_law_read) (defBody s_law_read) (defScope s_law_read) .none kV15 dc15 pm15 an15 cd15 ct15), sl15⟩)
    (c15 : PySem.W.codeIn K cd15 "_law_read" = true) (k15 : PySem.W.keepIn K (.ref f15) = true)
    (a16 : PySem.W.nsIn K mainGlobals "_law_signs" = some (some (.ref f16)))
    (l16 : K.lookup f16 = some ⟨oc16, od16, .func (PySem.W.fnOf "_law_signs" "_law_signs" (defArgs s_law_signs) (defBody s_law_signs) (defScope s_law_signs) .none kV16 dc16 pm16 an16 cd16 ct16), sl16⟩)
    (c16 : PySem.W.codeIn K cd16 "_law_signs" = true) (k16 : PySem.W.keepIn K (.ref f16) = true)
    (a17 : PySem.W.nsIn K mainGlobals "_law_bent_text" = some (some (.ref f17)))
    (l17 : K.lookup f17 = some ⟨oc17, od17, .func (PySem.W.fnOf "_law_bent_text" "_law_bent_text" (defArgs s_law_bent_text) (defBody s_law_bent_text) (defScope s_law_bent_text) .none kV17 dc17 pm17 an17 cd17 ct17), sl17⟩)
    (c17 : PySem.W.codeIn K cd17 "_law_bent_text" = true) (k17 : PySem.W.keepIn K (.ref f17) = true)
    (a18 : PySem.W.nsIn K mainGlobals "_law_refused" = some (some (.ref f18)))
    (l18 : K.lookup f18 = some ⟨oc18, od18, .func (PySem.W.fnOf "_law_refused" "_law_refused" (defArgs s_law_refused) (defBody s_law_refused) (defScope s_law_refused) .none kV18 dc18 pm18 an18 cd18 ct18), sl18⟩)
    (c18 : PySem.W.codeIn K cd18 "_law_refused" = true) (k18 : PySem.W.keepIn K (.ref f18) = true)
    (a19 : PySem.W.nsIn K mainGlobals "law" = some (some (.ref f19)))
    (l19 : K.lookup f19 = some ⟨oc19, od19, .func (PySem.W.fnOf "law" "law" (defArgs s_law) (defBody s_law) (defScope s_law) .none kV19 dc19 pm19 an19 cd19 ct19), sl19⟩)
    (c19 : PySem.W.codeIn K cd19 "law" = true) (k19 : PySem.W.keepIn K (.ref f19) = true)
    (v_MOST_DEEDS : PySem.W.nsIn K mainGlobals "MOST_DEEDS" = some (some (.int 8 t_MOST_DEEDS)))
    (v_MOST_INPUTS : PySem.W.nsIn K mainGlobals "MOST_INPUTS" = some (some (.int 3 t_MOST_INPUTS)))
    (v_MOST_FIGURES : PySem.W.nsIn K mainGlobals "MOST_FIGURES" = some (some (.int 19 t_MOST_FIGURES)))
    (v_FIGURES : PySem.W.nsIn K mainGlobals "FIGURES" = some (some (.str "0123456789" t_FIGURES)))
    (v_PLACES : PySem.W.nsIn K mainGlobals "PLACES" = some (some (.ref pl_PLACES)))
    (pa_PLACES : K.lookup pl_PLACES = some ⟨.type "dict", none, .dict es_PLACES n_PLACES, #[]⟩)
    (pw0_PLACES : PySem.W.nsIn K pl_PLACES "none" = some (some (.int 0 pt0_PLACES)))
    (pw1_PLACES : PySem.W.nsIn K pl_PLACES "one" = some (some (.int 0 pt1_PLACES)))
    (pw2_PLACES : PySem.W.nsIn K pl_PLACES "all" = some (some (.int 0 pt2_PLACES)))
    (pw3_PLACES : PySem.W.nsIn K pl_PLACES "not" = some (some (.int 1 pt3_PLACES)))
    (pw4_PLACES : PySem.W.nsIn K pl_PLACES "neg" = some (some (.int 1 pt4_PLACES)))
    (pw5_PLACES : PySem.W.nsIn K pl_PLACES "twice" = some (some (.int 1 pt5_PLACES)))
    (pw6_PLACES : PySem.W.nsIn K pl_PLACES "and" = some (some (.int 2 pt6_PLACES)))
    (pw7_PLACES : PySem.W.nsIn K pl_PLACES "or" = some (some (.int 2 pt7_PLACES)))
    (pw8_PLACES : PySem.W.nsIn K pl_PLACES "xor" = some (some (.int 2 pt8_PLACES)))
    (pw9_PLACES : PySem.W.nsIn K pl_PLACES "add" = some (some (.int 2 pt9_PLACES)))
    (pw10_PLACES : PySem.W.nsIn K pl_PLACES "sub" = some (some (.int 2 pt10_PLACES)))
    (pk_PLACES : PySem.W.KeysLit w.params es_PLACES.toList)
    (pz_PLACES : (pl_PLACES == sysModules) = false)
    (pf_PLACES : KeysFw es_PLACES.toList)
    (a_WideError : PySem.W.nsIn K mainGlobals "WideError" = some (some (.ref cWideError)))
    (x_WideError : PySem.W.excIn K cWideError [.type "ValueError", .type "Exception", .type "BaseException", .type "object"] "ValueError.__new__" = true)
    (k_WideError : PySem.W.keepIn K (.ref cWideError) = true)
    (e1_WideError : PySem.W.findIn K (.ref cWideError) "__getattribute__" = some (some (.builtin "BaseException.__getattribute__")))
    (e2_WideError : PySem.W.findIn K (.ref cWideError) "__getattr__" = some none)
    (e3_WideError : PySem.W.subIn K (.ref cWideError) (.type "BaseException") = some true)
    (e4_WideError : PySem.W.hasDictIn K cWideError = true)
    (e5_WideError : PySem.W.findIn K (.ref cWideError) "__class__" = some (some (.builtin "object.__class__")))
    (e6_WideError : PySem.W.specialIn K (.builtin "object.__class__") "__get__" = some (some (.builtin "getset_descriptor.__get__")))
    (e7_WideError : PySem.W.takesIn K (.builtin "object.__class__") = some true)
    (e8_WideError : PySem.W.mroIn K cWideError (.type "object") = some true)
    (e9_WideError : PySem.W.isClsIn K cWideError = true)
    (e10_WideError : PySem.W.typeIn K (.ref cWideError) = some (.type "type"))
    (e11_WideError : PySem.W.subIn K (.ref cWideError) (.type "ValueError") = some true)
    (a_NoRow : PySem.W.nsIn K mainGlobals "NoRow" = some (some (.ref cNoRow)))
    (x_NoRow : PySem.W.excIn K cNoRow [.type "ValueError", .type "Exception", .type "BaseException", .type "object"] "ValueError.__new__" = true)
    (k_NoRow : PySem.W.keepIn K (.ref cNoRow) = true)
    (e1_NoRow : PySem.W.findIn K (.ref cNoRow) "__getattribute__" = some (some (.builtin "BaseException.__getattribute__")))
    (e2_NoRow : PySem.W.findIn K (.ref cNoRow) "__getattr__" = some none)
    (e3_NoRow : PySem.W.subIn K (.ref cNoRow) (.type "BaseException") = some true)
    (e4_NoRow : PySem.W.hasDictIn K cNoRow = true)
    (e5_NoRow : PySem.W.findIn K (.ref cNoRow) "__class__" = some (some (.builtin "object.__class__")))
    (e6_NoRow : PySem.W.specialIn K (.builtin "object.__class__") "__get__" = some (some (.builtin "getset_descriptor.__get__")))
    (e7_NoRow : PySem.W.takesIn K (.builtin "object.__class__") = some true)
    (e8_NoRow : PySem.W.mroIn K cNoRow (.type "object") = some true)
    (e9_NoRow : PySem.W.isClsIn K cNoRow = true)
    (e10_NoRow : PySem.W.typeIn K (.ref cNoRow) = some (.type "type"))
    (e11_NoRow : PySem.W.subIn K (.ref cNoRow) (.type "ValueError") = some true)
    (a_NoPair : PySem.W.nsIn K mainGlobals "NoPair" = some (some (.ref cNoPair)))
    (x_NoPair : PySem.W.excIn K cNoPair [.type "ValueError", .type "Exception", .type "BaseException", .type "object"] "ValueError.__new__" = true)
    (k_NoPair : PySem.W.keepIn K (.ref cNoPair) = true)
    (e1_NoPair : PySem.W.findIn K (.ref cNoPair) "__getattribute__" = some (some (.builtin "BaseException.__getattribute__")))
    (e2_NoPair : PySem.W.findIn K (.ref cNoPair) "__getattr__" = some none)
    (e3_NoPair : PySem.W.subIn K (.ref cNoPair) (.type "BaseException") = some true)
    (e4_NoPair : PySem.W.hasDictIn K cNoPair = true)
    (e5_NoPair : PySem.W.findIn K (.ref cNoPair) "__class__" = some (some (.builtin "object.__class__")))
    (e6_NoPair : PySem.W.specialIn K (.builtin "object.__class__") "__get__" = some (some (.builtin "getset_descriptor.__get__")))
    (e7_NoPair : PySem.W.takesIn K (.builtin "object.__class__") = some true)
    (e8_NoPair : PySem.W.mroIn K cNoPair (.type "object") = some true)
    (e9_NoPair : PySem.W.isClsIn K cNoPair = true)
    (e10_NoPair : PySem.W.typeIn K (.ref cNoPair) = some (.type "type"))
    (e11_NoPair : PySem.W.subIn K (.ref cNoPair) (.type "ValueError") = some true)
    (a_NoRule : PySem.W.nsIn K mainGlobals "NoRule" = some (some (.ref cNoRule)))
    (x_NoRule : PySem.W.excIn K cNoRule [.type "ValueError", .type "Exception", .type "BaseException", .type "object"] "ValueError.__new__" = true)
    (k_NoRule : PySem.W.keepIn K (.ref cNoRule) = true)
    (e1_NoRule : PySem.W.findIn K (.ref cNoRule) "__getattribute__" = some (some (.builtin "BaseException.__getattribute__")))
    (e2_NoRule : PySem.W.findIn K (.ref cNoRule) "__getattr__" = some none)
    (e3_NoRule : PySem.W.subIn K (.ref cNoRule) (.type "BaseException") = some true)
    (e4_NoRule : PySem.W.hasDictIn K cNoRule = true)
    (e5_NoRule : PySem.W.findIn K (.ref cNoRule) "__class__" = some (some (.builtin "object.__class__")))
    (e6_NoRule : PySem.W.specialIn K (.builtin "object.__class__") "__get__" = some (some (.builtin "getset_descriptor.__get__")))
    (e7_NoRule : PySem.W.takesIn K (.builtin "object.__class__") = some true)
    (e8_NoRule : PySem.W.mroIn K cNoRule (.type "object") = some true)
    (e9_NoRule : PySem.W.isClsIn K cNoRule = true)
    (e10_NoRule : PySem.W.typeIn K (.ref cNoRule) = some (.type "type"))
    (e11_NoRule : PySem.W.subIn K (.ref cNoRule) (.type "ValueError") = some true)
    (a_NoName : PySem.W.nsIn K mainGlobals "NoName" = some (some (.ref cNoName)))
    (x_NoName : PySem.W.excIn K cNoName [.type "ValueError", .type "Exception", .type "BaseException", .type "object"] "ValueError.__new__" = true)
    (k_NoName : PySem.W.keepIn K (.ref cNoName) = true)
    (e1_NoName : PySem.W.findIn K (.ref cNoName) "__getattribute__" = some (some (.builtin "BaseException.__getattribute__")))
    (e2_NoName : PySem.W.findIn K (.ref cNoName) "__getattr__" = some none)
    (e3_NoName : PySem.W.subIn K (.ref cNoName) (.type "BaseException") = some true)
    (e4_NoName : PySem.W.hasDictIn K cNoName = true)
    (e5_NoName : PySem.W.findIn K (.ref cNoName) "__class__" = some (some (.builtin "object.__class__")))
    (e6_NoName : PySem.W.specialIn K (.builtin "object.__class__") "__get__" = some (some (.builtin "getset_descriptor.__get__")))
    (e7_NoName : PySem.W.takesIn K (.builtin "object.__class__") = some true)
    (e8_NoName : PySem.W.mroIn K cNoName (.type "object") = some true)
    (e9_NoName : PySem.W.isClsIn K cNoName = true)
    (e10_NoName : PySem.W.typeIn K (.ref cNoName) = some (.type "type"))
    (e11_NoName : PySem.W.subIn K (.ref cNoName) (.type "ValueError") = some true)
    (a_NoText : PySem.W.nsIn K mainGlobals "NoText" = some (some (.ref cNoText)))
    (x_NoText : PySem.W.excIn K cNoText [.type "ValueError", .type "Exception", .type "BaseException", .type "object"] "ValueError.__new__" = true)
    (k_NoText : PySem.W.keepIn K (.ref cNoText) = true)
    (e1_NoText : PySem.W.findIn K (.ref cNoText) "__getattribute__" = some (some (.builtin "BaseException.__getattribute__")))
    (e2_NoText : PySem.W.findIn K (.ref cNoText) "__getattr__" = some none)
    (e3_NoText : PySem.W.subIn K (.ref cNoText) (.type "BaseException") = some true)
    (e4_NoText : PySem.W.hasDictIn K cNoText = true)
    (e5_NoText : PySem.W.findIn K (.ref cNoText) "__class__" = some (some (.builtin "object.__class__")))
    (e6_NoText : PySem.W.specialIn K (.builtin "object.__class__") "__get__" = some (some (.builtin "getset_descriptor.__get__")))
    (e7_NoText : PySem.W.takesIn K (.builtin "object.__class__") = some true)
    (e8_NoText : PySem.W.mroIn K cNoText (.type "object") = some true)
    (e9_NoText : PySem.W.isClsIn K cNoText = true)
    (e10_NoText : PySem.W.typeIn K (.ref cNoText) = some (.type "type"))
    (e11_NoText : PySem.W.subIn K (.ref cNoText) (.type "ValueError") = some true)
    (a_TooMany : PySem.W.nsIn K mainGlobals "TooMany" = some (some (.ref cTooMany)))
    (x_TooMany : PySem.W.excIn K cTooMany [.type "ValueError", .type "Exception", .type "BaseException", .type "object"] "ValueError.__new__" = true)
    (k_TooMany : PySem.W.keepIn K (.ref cTooMany) = true)
    (e1_TooMany : PySem.W.findIn K (.ref cTooMany) "__getattribute__" = some (some (.builtin "BaseException.__getattribute__")))
    (e2_TooMany : PySem.W.findIn K (.ref cTooMany) "__getattr__" = some none)
    (e3_TooMany : PySem.W.subIn K (.ref cTooMany) (.type "BaseException") = some true)
    (e4_TooMany : PySem.W.hasDictIn K cTooMany = true)
    (e5_TooMany : PySem.W.findIn K (.ref cTooMany) "__class__" = some (some (.builtin "object.__class__")))
    (e6_TooMany : PySem.W.specialIn K (.builtin "object.__class__") "__get__" = some (some (.builtin "getset_descriptor.__get__")))
    (e7_TooMany : PySem.W.takesIn K (.builtin "object.__class__") = some true)
    (e8_TooMany : PySem.W.mroIn K cTooMany (.type "object") = some true)
    (e9_TooMany : PySem.W.isClsIn K cTooMany = true)
    (e10_TooMany : PySem.W.typeIn K (.ref cTooMany) = some (.type "type"))
    (e11_TooMany : PySem.W.subIn K (.ref cTooMany) (.type "ValueError") = some true)
    (a_Nothing : PySem.W.nsIn K mainGlobals "Nothing" = some (some (.ref cNothing)))
    (x_Nothing : PySem.W.excIn K cNothing [.type "ValueError", .type "Exception", .type "BaseException", .type "object"] "ValueError.__new__" = true)
    (k_Nothing : PySem.W.keepIn K (.ref cNothing) = true)
    (e1_Nothing : PySem.W.findIn K (.ref cNothing) "__getattribute__" = some (some (.builtin "BaseException.__getattribute__")))
    (e2_Nothing : PySem.W.findIn K (.ref cNothing) "__getattr__" = some none)
    (e3_Nothing : PySem.W.subIn K (.ref cNothing) (.type "BaseException") = some true)
    (e4_Nothing : PySem.W.hasDictIn K cNothing = true)
    (e5_Nothing : PySem.W.findIn K (.ref cNothing) "__class__" = some (some (.builtin "object.__class__")))
    (e6_Nothing : PySem.W.specialIn K (.builtin "object.__class__") "__get__" = some (some (.builtin "getset_descriptor.__get__")))
    (e7_Nothing : PySem.W.takesIn K (.builtin "object.__class__") = some true)
    (e8_Nothing : PySem.W.mroIn K cNothing (.type "object") = some true)
    (e9_Nothing : PySem.W.isClsIn K cNothing = true)
    (e10_Nothing : PySem.W.typeIn K (.ref cNothing) = some (.type "type"))
    (e11_Nothing : PySem.W.subIn K (.ref cNothing) (.type "ValueError") = some true)
    (s_WideError_WideError : PySem.W.subIn K (.ref cWideError) (.ref cWideError) = some true)
    (s_WideError_NoRow : PySem.W.subIn K (.ref cWideError) (.ref cNoRow) = some false)
    (s_WideError_NoPair : PySem.W.subIn K (.ref cWideError) (.ref cNoPair) = some false)
    (s_WideError_NoRule : PySem.W.subIn K (.ref cWideError) (.ref cNoRule) = some false)
    (s_WideError_NoName : PySem.W.subIn K (.ref cWideError) (.ref cNoName) = some false)
    (s_WideError_NoText : PySem.W.subIn K (.ref cWideError) (.ref cNoText) = some false)
    (s_WideError_TooMany : PySem.W.subIn K (.ref cWideError) (.ref cTooMany) = some false)
    (s_WideError_Nothing : PySem.W.subIn K (.ref cWideError) (.ref cNothing) = some false)
    (s_NoRow_WideError : PySem.W.subIn K (.ref cNoRow) (.ref cWideError) = some true)
    (s_NoRow_NoRow : PySem.W.subIn K (.ref cNoRow) (.ref cNoRow) = some true)
    (s_NoRow_NoPair : PySem.W.subIn K (.ref cNoRow) (.ref cNoPair) = some false)
    (s_NoRow_NoRule : PySem.W.subIn K (.ref cNoRow) (.ref cNoRule) = some false)
    (s_NoRow_NoName : PySem.W.subIn K (.ref cNoRow) (.ref cNoName) = some false)
    (s_NoRow_NoText : PySem.W.subIn K (.ref cNoRow) (.ref cNoText) = some false)
    (s_NoRow_TooMany : PySem.W.subIn K (.ref cNoRow) (.ref cTooMany) = some false)
    (s_NoRow_Nothing : PySem.W.subIn K (.ref cNoRow) (.ref cNothing) = some false)
    (s_NoPair_WideError : PySem.W.subIn K (.ref cNoPair) (.ref cWideError) = some true)
    (s_NoPair_NoRow : PySem.W.subIn K (.ref cNoPair) (.ref cNoRow) = some false)
    (s_NoPair_NoPair : PySem.W.subIn K (.ref cNoPair) (.ref cNoPair) = some true)
    (s_NoPair_NoRule : PySem.W.subIn K (.ref cNoPair) (.ref cNoRule) = some false)
    (s_NoPair_NoName : PySem.W.subIn K (.ref cNoPair) (.ref cNoName) = some false)
    (s_NoPair_NoText : PySem.W.subIn K (.ref cNoPair) (.ref cNoText) = some false)
    (s_NoPair_TooMany : PySem.W.subIn K (.ref cNoPair) (.ref cTooMany) = some false)
    (s_NoPair_Nothing : PySem.W.subIn K (.ref cNoPair) (.ref cNothing) = some false)
    (s_NoRule_WideError : PySem.W.subIn K (.ref cNoRule) (.ref cWideError) = some true)
    (s_NoRule_NoRow : PySem.W.subIn K (.ref cNoRule) (.ref cNoRow) = some false)
    (s_NoRule_NoPair : PySem.W.subIn K (.ref cNoRule) (.ref cNoPair) = some false)
    (s_NoRule_NoRule : PySem.W.subIn K (.ref cNoRule) (.ref cNoRule) = some true)
    (s_NoRule_NoName : PySem.W.subIn K (.ref cNoRule) (.ref cNoName) = some false)
    (s_NoRule_NoText : PySem.W.subIn K (.ref cNoRule) (.ref cNoText) = some false)
    (s_NoRule_TooMany : PySem.W.subIn K (.ref cNoRule) (.ref cTooMany) = some false)
    (s_NoRule_Nothing : PySem.W.subIn K (.ref cNoRule) (.ref cNothing) = some false)
    (s_NoName_WideError : PySem.W.subIn K (.ref cNoName) (.ref cWideError) = some true)
    (s_NoName_NoRow : PySem.W.subIn K (.ref cNoName) (.ref cNoRow) = some false)
    (s_NoName_NoPair : PySem.W.subIn K (.ref cNoName) (.ref cNoPair) = some false)
    (s_NoName_NoRule : PySem.W.subIn K (.ref cNoName) (.ref cNoRule) = some false)
    (s_NoName_NoName : PySem.W.subIn K (.ref cNoName) (.ref cNoName) = some true)
    (s_NoName_NoText : PySem.W.subIn K (.ref cNoName) (.ref cNoText) = some false)
    (s_NoName_TooMany : PySem.W.subIn K (.ref cNoName) (.ref cTooMany) = some false)
    (s_NoName_Nothing : PySem.W.subIn K (.ref cNoName) (.ref cNothing) = some false)
    (s_NoText_WideError : PySem.W.subIn K (.ref cNoText) (.ref cWideError) = some true)
    (s_NoText_NoRow : PySem.W.subIn K (.ref cNoText) (.ref cNoRow) = some false)
    (s_NoText_NoPair : PySem.W.subIn K (.ref cNoText) (.ref cNoPair) = some false)
    (s_NoText_NoRule : PySem.W.subIn K (.ref cNoText) (.ref cNoRule) = some false)
    (s_NoText_NoName : PySem.W.subIn K (.ref cNoText) (.ref cNoName) = some false)
    (s_NoText_NoText : PySem.W.subIn K (.ref cNoText) (.ref cNoText) = some true)
    (s_NoText_TooMany : PySem.W.subIn K (.ref cNoText) (.ref cTooMany) = some false)
    (s_NoText_Nothing : PySem.W.subIn K (.ref cNoText) (.ref cNothing) = some false)
    (s_TooMany_WideError : PySem.W.subIn K (.ref cTooMany) (.ref cWideError) = some true)
    (s_TooMany_NoRow : PySem.W.subIn K (.ref cTooMany) (.ref cNoRow) = some false)
    (s_TooMany_NoPair : PySem.W.subIn K (.ref cTooMany) (.ref cNoPair) = some false)
    (s_TooMany_NoRule : PySem.W.subIn K (.ref cTooMany) (.ref cNoRule) = some false)
    (s_TooMany_NoName : PySem.W.subIn K (.ref cTooMany) (.ref cNoName) = some false)
    (s_TooMany_NoText : PySem.W.subIn K (.ref cTooMany) (.ref cNoText) = some false)
    (s_TooMany_TooMany : PySem.W.subIn K (.ref cTooMany) (.ref cTooMany) = some true)
    (s_TooMany_Nothing : PySem.W.subIn K (.ref cTooMany) (.ref cNothing) = some false)
    (s_Nothing_WideError : PySem.W.subIn K (.ref cNothing) (.ref cWideError) = some true)
    (s_Nothing_NoRow : PySem.W.subIn K (.ref cNothing) (.ref cNoRow) = some false)
    (s_Nothing_NoPair : PySem.W.subIn K (.ref cNothing) (.ref cNoPair) = some false)
    (s_Nothing_NoRule : PySem.W.subIn K (.ref cNothing) (.ref cNoRule) = some false)
    (s_Nothing_NoName : PySem.W.subIn K (.ref cNothing) (.ref cNoName) = some false)
    (s_Nothing_NoText : PySem.W.subIn K (.ref cNothing) (.ref cNoText) = some false)
    (s_Nothing_TooMany : PySem.W.subIn K (.ref cNothing) (.ref cTooMany) = some false)
    (s_Nothing_Nothing : PySem.W.subIn K (.ref cNothing) (.ref cNothing) = some true)
    (z_ValueError : PySem.W.nsIn K mainGlobals "ValueError" = some none)
    (z_abs : PySem.W.nsIn K mainGlobals "abs" = some none)
    (z_all : PySem.W.nsIn K mainGlobals "all" = some none)
    (z_bool : PySem.W.nsIn K mainGlobals "bool" = some none)
    (z_enumerate : PySem.W.nsIn K mainGlobals "enumerate" = some none)
    (z_int : PySem.W.nsIn K mainGlobals "int" = some none)
    (z_isinstance : PySem.W.nsIn K mainGlobals "isinstance" = some none)
    (z_len : PySem.W.nsIn K mainGlobals "len" = some none)
    (z_list : PySem.W.nsIn K mainGlobals "list" = some none)
    (z_range : PySem.W.nsIn K mainGlobals "range" = some none)
    (z_repr : PySem.W.nsIn K mainGlobals "repr" = some none)
    (z_str : PySem.W.nsIn K mainGlobals "str" = some none)
    (z_tuple : PySem.W.nsIn K mainGlobals "tuple" = some none)
    : ∀ (s : Shared) (a : Addr) (ns : List Int) (base : Heap) (H : Hp), ns.length ≤ 63 → (∀ z ∈ ns, Builtin.Int.intBits z ≤ 1048576) → Env0 l.prog w K mg base callerA [] s H → SqL K H a (ns.map V.int) →
      codeAny (model l.prog w) callerA (.call (.ref fa) ⟨[.ref a], []⟩) (CR CX0 [] l.prog w H s (fun v _ => v = .bl true) E0) s := by
  have F_is_whole := fun_mk (st := s_is_whole) l0 c0 k0
  have b_is_whole := F_is_whole.binds (ps := ["thing"]) fun _ _ _ _ _ _ us hl => match us, hl with | [_], _ => rfl
  have g_is_whole := PySem.W.mg_of X G a0
  have F_is_number_below := fun_mk (st := s_is_number_below) l1 c1 k1
  have b_is_number_below := F_is_number_below.binds (ps := ["thing", "many"]) fun _ _ _ _ _ _ us hl => match us, hl with | [_, _], _ => rfl
  have g_is_number_below := PySem.W.mg_of X G a1
  have F_is_deed := fun_mk (st := s_is_deed) l2 c2 k2
  have b_is_deed := F_is_deed.binds (ps := ["thing", "ahead"]) fun _ _ _ _ _ _ us hl => match us, hl with | [_, _], _ => rfl
  have g_is_deed := PySem.W.mg_of X G a2
  have F_are_deeds := fun_mk (st := s_are_deeds) l3 c3 k3
  have b_are_deeds := F_are_deeds.binds (ps := ["thing", "many"]) fun _ _ _ _ _ _ us hl => match us, hl with | [_, _], _ => rfl
  have g_are_deeds := PySem.W.mg_of X G a3
  have F_is_row := fun_mk (st := s_is_row) l4 c4 k4
  have b_is_row := F_is_row.binds (ps := ["thing"]) fun _ _ _ _ _ _ us hl => match us, hl with | [_], _ => rfl
  have g_is_row := PySem.W.mg_of X G a4
  have F_read_number := fun_mk (st := s_read_number) l5 c5 k5
  have b_read_number := F_read_number.binds (ps := ["word"]) fun _ _ _ _ _ _ us hl => match us, hl with | [_], _ => rfl
  have g_read_number := PySem.W.mg_of X G a5
  have F_read_part := fun_mk (st := s_read_part) l6 c6 k6
  have b_read_part := F_read_part.binds (ps := ["text"]) fun _ _ _ _ _ _ us hl => match us, hl with | [_], _ => rfl
  have g_read_part := PySem.W.mg_of X G a6
  have F_read_row := fun_mk (st := s_read_row) l7 c7 k7
  have b_read_row := F_read_row.binds (ps := ["text"]) fun _ _ _ _ _ _ us hl => match us, hl with | [_], _ => rfl
  have g_read_row := PySem.W.mg_of X G a7
  have F_law_well := fun_mk (st := s_law_well) l8 c8 k8
  have b_law_well := F_law_well.binds (ps := ["script"]) fun _ _ _ _ _ _ us hl => match us, hl with | [_], _ => rfl
  have g_law_well := PySem.W.mg_of X G a8
  have F_law_draw := fun_mk (st := s_law_draw) l9 c9 k9
  have b_law_draw := F_law_draw.binds (ps := ["well", "many"]) fun _ _ _ _ _ _ us hl => match us, hl with | [_, _], _ => rfl
  have g_law_draw := PySem.W.mg_of X G a9
  have F_law_first_words := fun_mk (st := s_law_first_words) l10 c10 k10
  have b_law_first_words := F_law_first_words.binds (ps := []) fun _ _ _ _ _ _ us hl => match us, hl with | [], _ => rfl
  have g_law_first_words := PySem.W.mg_of X G a10
  have F_law_deed := fun_mk (st := s_law_deed) l11 c11 k11
  have b_law_deed := F_law_deed.binds (ps := ["well", "ahead"]) fun _ _ _ _ _ _ us hl => match us, hl with | [_, _], _ => rfl
  have g_law_deed := PySem.W.mg_of X G a11
  have F_law_row := fun_mk (st := s_law_row) l12 c12 k12
  have b_law_row := F_law_row.binds (ps := ["well", "many", "most"]) fun _ _ _ _ _ _ us hl => match us, hl with | [_, _, _], _ => rfl
  have g_law_row := PySem.W.mg_of X G a12
  have F_law_text := fun_mk (st := s_law_text) l13 c13 k13
  have b_law_text := F_law_text.binds (ps := ["row"]) fun _ _ _ _ _ _ us hl => match us, hl with | [_], _ => rfl
  have g_law_text := PySem.W.mg_of X G a13
  have F_law_number := fun_mk (st := s_law_number) l14 c14 k14
  have b_law_number := F_law_number.binds (ps := ["word"]) fun _ _ _ _ _ _ us hl => match us, hl with | [_], _ => rfl
  have g_law_number := PySem.W.mg_of X G a14
  have F_law_read := fun_mk (st := s_law_read) l15 c15 k15
  have b_law_read := F_law_read.binds (ps := ["text"]) fun _ _ _ _ _ _ us hl => match us, hl with | [_], _ => rfl
  have g_law_read := PySem.W.mg_of X G a15
  have F_law_signs := fun_mk (st := s_law_signs) l16 c16 k16
  have b_law_signs := F_law_signs.binds (ps := []) fun _ _ _ _ _ _ us hl => match us, hl with | [], _ => rfl
  have g_law_signs := PySem.W.mg_of X G a16
  have F_law_bent_text := fun_mk (st := s_law_bent_text) l17 c17 k17
  have b_law_bent_text := F_law_bent_text.binds (ps := ["well", "text"]) fun _ _ _ _ _ _ us hl => match us, hl with | [_, _], _ => rfl
  have g_law_bent_text := PySem.W.mg_of X G a17
  have F_law_refused := fun_mk (st := s_law_refused) l18 c18 k18
  have b_law_refused := F_law_refused.binds (ps := ["thing"]) fun _ _ _ _ _ _ us hl => match us, hl with | [_], _ => rfl
  have g_law_refused := PySem.W.mg_of X G a18
  have F_law := fun_mk (st := s_law) l19 c19 k19
  have b_law := F_law.binds (ps := ["script"]) fun _ _ _ _ _ _ us hl => match us, hl with | [_], _ => rfl
  obtain rfl : fa = f19 := by
    have e := hfa.symm.trans (PySem.W.mg_of X G a19)
    cases e
    rfl
  have g_MOST_DEEDS := PySem.W.mg_of X G v_MOST_DEEDS
  have g_MOST_INPUTS := PySem.W.mg_of X G v_MOST_INPUTS
  have g_MOST_FIGURES := PySem.W.mg_of X G v_MOST_FIGURES
  have g_FIGURES := PySem.W.mg_of X G v_FIGURES
  have g_PLACES := PySem.W.mg_of X G v_PLACES
  have D_PLACES : PlOk K w pl_PLACES es_PLACES n_PLACES := ⟨⟨pa_PLACES, pk_PLACES, pz_PLACES⟩, fun p hp => by
      unfold fwL at hp
      simp only [List.mem_cons, List.not_mem_nil, or_false] at hp
      rcases hp with rfl | rfl | rfl | rfl | rfl | rfl | rfl | rfl | rfl | rfl | rfl
      · exact ⟨_, pw0_PLACES⟩
      · exact ⟨_, pw1_PLACES⟩
      · exact ⟨_, pw2_PLACES⟩
      · exact ⟨_, pw3_PLACES⟩
      · exact ⟨_, pw4_PLACES⟩
      · exact ⟨_, pw5_PLACES⟩
      · exact ⟨_, pw6_PLACES⟩
      · exact ⟨_, pw7_PLACES⟩
      · exact ⟨_, pw8_PLACES⟩
      · exact ⟨_, pw9_PLACES⟩
      · exact ⟨_, pw10_PLACES⟩
    , pf_PLACES⟩
  have g_WideError := PySem.W.mg_of X G a_WideError
  have X_WideError : ExcC K cWideError := ⟨e1_WideError, e2_WideError, e3_WideError, e4_WideError, e5_WideError, e6_WideError, e7_WideError, e8_WideError⟩
  have g_NoRow := PySem.W.mg_of X G a_NoRow
  have X_NoRow : ExcC K cNoRow := ⟨e1_NoRow, e2_NoRow, e3_NoRow, e4_NoRow, e5_NoRow, e6_NoRow, e7_NoRow, e8_NoRow⟩
  have g_NoPair := PySem.W.mg_of X G a_NoPair
  have X_NoPair : ExcC K cNoPair := ⟨e1_NoPair, e2_NoPair, e3_NoPair, e4_NoPair, e5_NoPair, e6_NoPair, e7_NoPair, e8_NoPair⟩
  have g_NoRule := PySem.W.mg_of X G a_NoRule
  have X_NoRule : ExcC K cNoRule := ⟨e1_NoRule, e2_NoRule, e3_NoRule, e4_NoRule, e5_NoRule, e6_NoRule, e7_NoRule, e8_NoRule⟩
  have g_NoName := PySem.W.mg_of X G a_NoName
  have X_NoName : ExcC K cNoName := ⟨e1_NoName, e2_NoName, e3_NoName, e4_NoName, e5_NoName, e6_NoName, e7_NoName, e8_NoName⟩
  have g_NoText := PySem.W.mg_of X G a_NoText
  have X_NoText : ExcC K cNoText := ⟨e1_NoText, e2_NoText, e3_NoText, e4_NoText, e5_NoText, e6_NoText, e7_NoText, e8_NoText⟩
  have g_TooMany := PySem.W.mg_of X G a_TooMany
  have X_TooMany : ExcC K cTooMany := ⟨e1_TooMany, e2_TooMany, e3_TooMany, e4_TooMany, e5_TooMany, e6_TooMany, e7_TooMany, e8_TooMany⟩
  have g_Nothing := PySem.W.mg_of X G a_Nothing
  have X_Nothing : ExcC K cNothing := ⟨e1_Nothing, e2_Nothing, e3_Nothing, e4_Nothing, e5_Nothing, e6_Nothing, e7_Nothing, e8_Nothing⟩
  have t_WideError_WideError := kit_ref e9_WideError e10_WideError s_WideError_WideError s_WideError_WideError
  have t_WideError_NoRow := kit_ref e9_NoRow e10_NoRow s_WideError_NoRow s_NoRow_NoRow
  have t_WideError_NoPair := kit_ref e9_NoPair e10_NoPair s_WideError_NoPair s_NoPair_NoPair
  have t_WideError_NoRule := kit_ref e9_NoRule e10_NoRule s_WideError_NoRule s_NoRule_NoRule
  have t_WideError_NoName := kit_ref e9_NoName e10_NoName s_WideError_NoName s_NoName_NoName
  have t_WideError_NoText := kit_ref e9_NoText e10_NoText s_WideError_NoText s_NoText_NoText
  have t_WideError_TooMany := kit_ref e9_TooMany e10_TooMany s_WideError_TooMany s_TooMany_TooMany
  have t_WideError_Nothing := kit_ref e9_Nothing e10_Nothing s_WideError_Nothing s_Nothing_Nothing
  have v_WideError := kit_ve e11_WideError
  have t_NoRow_WideError := kit_ref e9_WideError e10_WideError s_NoRow_WideError s_WideError_WideError
  have t_NoRow_NoRow := kit_ref e9_NoRow e10_NoRow s_NoRow_NoRow s_NoRow_NoRow
  have t_NoRow_NoPair := kit_ref e9_NoPair e10_NoPair s_NoRow_NoPair s_NoPair_NoPair
  have t_NoRow_NoRule := kit_ref e9_NoRule e10_NoRule s_NoRow_NoRule s_NoRule_NoRule
  have t_NoRow_NoName := kit_ref e9_NoName e10_NoName s_NoRow_NoName s_NoName_NoName
  have t_NoRow_NoText := kit_ref e9_NoText e10_NoText s_NoRow_NoText s_NoText_NoText
  have t_NoRow_TooMany := kit_ref e9_TooMany e10_TooMany s_NoRow_TooMany s_TooMany_TooMany
  have t_NoRow_Nothing := kit_ref e9_Nothing e10_Nothing s_NoRow_Nothing s_Nothing_Nothing
  have v_NoRow := kit_ve e11_NoRow
  have t_NoPair_WideError := kit_ref e9_WideError e10_WideError s_NoPair_WideError s_WideError_WideError
  have t_NoPair_NoRow := kit_ref e9_NoRow e10_NoRow s_NoPair_NoRow s_NoRow_NoRow
  have t_NoPair_NoPair := kit_ref e9_NoPair e10_NoPair s_NoPair_NoPair s_NoPair_NoPair
  have t_NoPair_NoRule := kit_ref e9_NoRule e10_NoRule s_NoPair_NoRule s_NoRule_NoRule
  have t_NoPair_NoName := kit_ref e9_NoName e10_NoName s_NoPair_NoName s_NoName_NoName
  have t_NoPair_NoText := kit_ref e9_NoText e10_NoText s_NoPair_NoText s_NoText_NoText
  have t_NoPair_TooMany := kit_ref e9_TooMany e10_TooMany s_NoPair_TooMany s_TooMany_TooMany
  have t_NoPair_Nothing := kit_ref e9_Nothing e10_Nothing s_NoPair_Nothing s_Nothing_Nothing
  have v_NoPair := kit_ve e11_NoPair
  have t_NoRule_WideError := kit_ref e9_WideError e10_WideError s_NoRule_WideError s_WideError_WideError
  have t_NoRule_NoRow := kit_ref e9_NoRow e10_NoRow s_NoRule_NoRow s_NoRow_NoRow
  have t_NoRule_NoPair := kit_ref e9_NoPair e10_NoPair s_NoRule_NoPair s_NoPair_NoPair
  have t_NoRule_NoRule := kit_ref e9_NoRule e10_NoRule s_NoRule_NoRule s_NoRule_NoRule
  have t_NoRule_NoName := kit_ref e9_NoName e10_NoName s_NoRule_NoName s_NoName_NoName
  have t_NoRule_NoText := kit_ref e9_NoText e10_NoText s_NoRule_NoText s_NoText_NoText
  have t_NoRule_TooMany := kit_ref e9_TooMany e10_TooMany s_NoRule_TooMany s_TooMany_TooMany
  have t_NoRule_Nothing := kit_ref e9_Nothing e10_Nothing s_NoRule_Nothing s_Nothing_Nothing
  have v_NoRule := kit_ve e11_NoRule
  have t_NoName_WideError := kit_ref e9_WideError e10_WideError s_NoName_WideError s_WideError_WideError
  have t_NoName_NoRow := kit_ref e9_NoRow e10_NoRow s_NoName_NoRow s_NoRow_NoRow
  have t_NoName_NoPair := kit_ref e9_NoPair e10_NoPair s_NoName_NoPair s_NoPair_NoPair
  have t_NoName_NoRule := kit_ref e9_NoRule e10_NoRule s_NoName_NoRule s_NoRule_NoRule
  have t_NoName_NoName := kit_ref e9_NoName e10_NoName s_NoName_NoName s_NoName_NoName
  have t_NoName_NoText := kit_ref e9_NoText e10_NoText s_NoName_NoText s_NoText_NoText
  have t_NoName_TooMany := kit_ref e9_TooMany e10_TooMany s_NoName_TooMany s_TooMany_TooMany
  have t_NoName_Nothing := kit_ref e9_Nothing e10_Nothing s_NoName_Nothing s_Nothing_Nothing
  have v_NoName := kit_ve e11_NoName
  have t_NoText_WideError := kit_ref e9_WideError e10_WideError s_NoText_WideError s_WideError_WideError
  have t_NoText_NoRow := kit_ref e9_NoRow e10_NoRow s_NoText_NoRow s_NoRow_NoRow
  have t_NoText_NoPair := kit_ref e9_NoPair e10_NoPair s_NoText_NoPair s_NoPair_NoPair
  have t_NoText_NoRule := kit_ref e9_NoRule e10_NoRule s_NoText_NoRule s_NoRule_NoRule
  have t_NoText_NoName := kit_ref e9_NoName e10_NoName s_NoText_NoName s_NoName_NoName
  have t_NoText_NoText := kit_ref e9_NoText e10_NoText s_NoText_NoText s_NoText_NoText
  have t_NoText_TooMany := kit_ref e9_TooMany e10_TooMany s_NoText_TooMany s_TooMany_TooMany
  have t_NoText_Nothing := kit_ref e9_Nothing e10_Nothing s_NoText_Nothing s_Nothing_Nothing
  have v_NoText := kit_ve e11_NoText
  have t_TooMany_WideError := kit_ref e9_WideError e10_WideError s_TooMany_WideError s_WideError_WideError
  have t_TooMany_NoRow := kit_ref e9_NoRow e10_NoRow s_TooMany_NoRow s_NoRow_NoRow
  have t_TooMany_NoPair := kit_ref e9_NoPair e10_NoPair s_TooMany_NoPair s_NoPair_NoPair
  have t_TooMany_NoRule := kit_ref e9_NoRule e10_NoRule s_TooMany_NoRule s_NoRule_NoRule
  have t_TooMany_NoName := kit_ref e9_NoName e10_NoName s_TooMany_NoName s_NoName_NoName
  have t_TooMany_NoText := kit_ref e9_NoText e10_NoText s_TooMany_NoText s_NoText_NoText
  have t_TooMany_TooMany := kit_ref e9_TooMany e10_TooMany s_TooMany_TooMany s_TooMany_TooMany
  have t_TooMany_Nothing := kit_ref e9_Nothing e10_Nothing s_TooMany_Nothing s_Nothing_Nothing
  have v_TooMany := kit_ve e11_TooMany
  have t_Nothing_WideError := kit_ref e9_WideError e10_WideError s_Nothing_WideError s_WideError_WideError
  have t_Nothing_NoRow := kit_ref e9_NoRow e10_NoRow s_Nothing_NoRow s_NoRow_NoRow
  have t_Nothing_NoPair := kit_ref e9_NoPair e10_NoPair s_Nothing_NoPair s_NoPair_NoPair
  have t_Nothing_NoRule := kit_ref e9_NoRule e10_NoRule s_Nothing_NoRule s_NoRule_NoRule
  have t_Nothing_NoName := kit_ref e9_NoName e10_NoName s_Nothing_NoName s_NoName_NoName
  have t_Nothing_NoText := kit_ref e9_NoText e10_NoText s_Nothing_NoText s_NoText_NoText
  have t_Nothing_TooMany := kit_ref e9_TooMany e10_TooMany s_Nothing_TooMany s_TooMany_TooMany
  have t_Nothing_Nothing := kit_ref e9_Nothing e10_Nothing s_Nothing_Nothing s_Nothing_Nothing
  have v_Nothing := kit_ve e11_Nothing
  have m_ValueError := PySem.W.mg_none_of X G z_ValueError
  have m_abs := PySem.W.mg_none_of X G z_abs
  have m_all := PySem.W.mg_none_of X G z_all
  have m_bool := PySem.W.mg_none_of X G z_bool
  have m_enumerate := PySem.W.mg_none_of X G z_enumerate
  have m_int := PySem.W.mg_none_of X G z_int
  have m_isinstance := PySem.W.mg_none_of X G z_isinstance
  have m_len := PySem.W.mg_none_of X G z_len
  have m_list := PySem.W.mg_none_of X G z_list
  have m_range := PySem.W.mg_none_of X G z_range
  have m_repr := PySem.W.mg_none_of X G z_repr
  have m_str := PySem.W.mg_none_of X G z_str
  have m_tuple := PySem.W.mg_none_of X G z_tuple
  intro s a ns base H hlen hbits e0 hS
  have GD := ok_draw (P := l.prog) (w := w) (mg := mg) (base := base) (k := 0) F_law_draw
  have GE := ok_deed (P := l.prog) (w := w) (mg := mg) (base := base) (k := 0) F_law_deed F_law_draw F_law_first_words b_law_draw b_law_first_words g_law_draw g_law_first_words m_list m_tuple m_range
  have GR := ok_row (P := l.prog) (w := w) (mg := mg) (base := base) (k := 0) F_law_row GD F_law_draw.kp GE F_law_deed.kp b_law_draw b_law_deed g_law_draw g_law_deed m_tuple m_range
  have GW := ok_well (P := l.prog) (w := w) (mg := mg) (base := base) (k := 0) F_law_well m_abs
  have GT := ok_ltext (P := l.prog) (w := w) (K := K) (mg := mg) (base := base) (k := 0) F_law_text m_str
  have GA := ok_wh (P := l.prog) (w := w) (K := K) (mg := mg) (base := base) (k := 0) F_is_whole m_isinstance m_int m_bool
  have GB2 := ok_nb (P := l.prog) (w := w) (mg := mg) (base := base) (k := 0) F_is_number_below GA F_is_whole.kp b_is_whole g_is_whole
  have GF := ok_de (P := l.prog) (w := w) (mg := mg) (base := base) (k := 0) F_is_deed GB2 F_is_number_below.kp b_is_number_below g_is_number_below D_PLACES g_PLACES m_isinstance m_tuple m_str m_len m_all
  have GG := ok_ad (P := l.prog) (w := w) (mg := mg) (base := base) (k := 0) F_are_deeds GF F_is_deed.kp b_is_deed g_is_deed g_MOST_DEEDS m_isinstance m_tuple m_len m_all m_enumerate
  have GI := ok_ir (P := l.prog) (w := w) (mg := mg) (base := base) (k := 0) F_is_row GA F_is_whole.kp b_is_whole g_is_whole GG F_are_deeds.kp b_are_deeds g_are_deeds GB2 F_is_number_below.kp b_is_number_below g_is_number_below g_MOST_INPUTS m_isinstance m_tuple m_len
  have G1 := ok_rn (P := l.prog) (w := w) (K := K) (mg := mg) (base := base) (k := 0) F_read_number g_FIGURES g_MOST_FIGURES m_len m_all m_int
  have G2 := ok_rp (P := l.prog) (w := w) (mg := mg) (base := base) (k := 0) F_read_part G1 F_read_number.kp b_read_number g_read_number m_tuple
  have rN : Rai K mg "NoText" cNoText := ⟨x_NoText, g_NoText, k_NoText, e3_NoText, e10_NoText⟩
  have G3 := ok_rr (P := l.prog) (w := w) (base := base) (k := 0) F_read_row rN G2 F_read_part.kp b_read_part g_read_part GI F_is_row.kp b_is_row g_is_row m_isinstance m_str m_len m_tuple
  have G4 := ok_rq (P := l.prog) (w := w) (base := base) (k := 5) F_read_row rN m_isinstance m_str
  have KX : KG K mg cWideError cNoText cNoName cNoPair cNoRow cNoRule cNothing cTooMany := ⟨g_WideError, g_NoText, g_NoName, g_NoPair, g_NoRow, g_NoRule, g_Nothing, g_TooMany, X_NoText, PySem.W.exm_ref e3_WideError e4_WideError e10_WideError s_NoText_WideError,
    by simp only [PySem.W.kitAny, t_NoText_NoName, t_NoText_NoPair, t_NoText_NoRow, t_NoText_NoRule, t_NoText_Nothing, t_NoText_TooMany], v_NoText, t_NoText_NoText⟩
  have GRf := ok_rf (P := l.prog) (w := w) (base := base) (k := 0) F_law_refused KX (fn_or G3 G4) F_read_row.kp b_read_row g_read_row m_isinstance m_repr m_ValueError
  have GN := ok_ln (P := l.prog) (w := w) (K := K) (mg := mg) (base := base) (k := 0) F_law_number m_range m_str m_int
  have GFw := ok_fw (P := l.prog) (w := w) (K := K) (mg := mg) (base := base) (k := 0) F_law_first_words
  have GL := ok_lr (P := l.prog) (w := w) (mg := mg) (base := base) (k := 0) F_law_read GN F_law_number.kp b_law_number g_law_number GFw F_law_first_words.kp b_law_first_words g_law_first_words m_len m_tuple m_enumerate
  have GSg := ok_sg (P := l.prog) (w := w) (K := K) (mg := mg) (base := base) (k := 0) F_law_signs
  have GBt := ok_bt (P := l.prog) (w := w) (mg := mg) (base := base) (k := 0) F_law_bent_text GD F_law_draw.kp b_law_draw g_law_draw GSg F_law_signs.kp b_law_signs g_law_signs m_len m_int
  exact law_run F_law b_law GW F_law_well.kp b_law_well g_law_well GD F_law_draw.kp b_law_draw g_law_draw GR F_law_row.kp b_law_row g_law_row GT F_law_text.kp b_law_text g_law_text GBt F_law_bent_text.kp b_law_bent_text g_law_bent_text GRf F_law_refused.kp b_law_refused g_law_refused GL F_law_read.kp b_law_read g_law_read G3 F_read_row.kp b_read_row g_read_row m_range m_repr hlen hbits e0 hS
end
end KK
open PySem PySem.W PyProof.Rows
set_option maxHeartbeats 0 in
theorem PySem.Challenge.cw_anywide_k76_rows_read_holds : PySem.Challenge.rw_anywide_k76_rows_read.Holds := by
  w_on; o_law; k_head; (case hw => w_witness2)
  k_fill
  refine AW.walkG (l := PySem.Challenge.rw_anywide_k76_rows_read) (n := 63) rfl (by decide) rfl (fun w h Y => PySem.W.kIn_of Y) ?F
  case F =>
    intro w mg fa h KX G hmg
    refine' KK.all_mk KX G hmg ?a0 ?l0 ?c0 ?k0 ?a1 ?l1 ?c1 ?k1 ?a2 ?l2 ?c2 ?k2 ?a3 ?l3 ?c3 ?k3 ?a4 ?l4 ?c4 ?k4 ?a5 ?l5 ?c5 ?k5 ?a6 ?l6 ?c6 ?k6 ?a7 ?l7 ?c7 ?k7 ?a8 ?l8 ?c8 ?k8 ?a9 ?l9 ?c9 ?k9 ?a10 ?l10 ?c10 ?k10 ?a11 ?l11 ?c11 ?k11 ?a12 ?l12 ?c12 ?k12 ?a13 ?l13 ?c13 ?k13 ?a14 ?l14 ?c14 ?k14 ?a15 ?l15 ?c15 ?k15 ?a16 ?l16 ?c16 ?k16 ?a17 ?l17 ?c17 ?k17 ?a18 ?l18 ?c18 ?k18 ?a19 ?l19 ?c19 ?k19 ?v_MOST_DEEDS ?v_MOST_INPUTS ?v_MOST_FIGURES ?v_FIGURES ?v_PLACES ?pa_PLACES ?pw0_PLACES ?pw1_PLACES ?pw2_PLACES ?pw3_PLACES ?pw4_PLACES ?pw5_PLACES ?pw6_PLACES ?pw7_PLACES ?pw8_PLACES ?pw9_PLACES ?pw10_PLACES ?pk_PLACES ?pz_PLACES ?pf_PLACES ?a_WideError ?x_WideError ?k_WideError ?e1_WideError ?e2_WideError ?e3_WideError ?e4_WideError ?e5_WideError ?e6_WideError ?e7_WideError ?e8_WideError ?e9_WideError ?e10_WideError ?e11_WideError ?a_NoRow ?x_NoRow ?k_NoRow ?e1_NoRow ?e2_NoRow ?e3_NoRow ?e4_NoRow ?e5_NoRow ?e6_NoRow ?e7_NoRow ?e8_NoRow ?e9_NoRow ?e10_NoRow ?e11_NoRow ?a_NoPair ?x_NoPair ?k_NoPair ?e1_NoPair ?e2_NoPair ?e3_NoPair ?e4_NoPair ?e5_NoPair ?e6_NoPair ?e7_NoPair ?e8_NoPair ?e9_NoPair ?e10_NoPair ?e11_NoPair ?a_NoRule ?x_NoRule ?k_NoRule ?e1_NoRule ?e2_NoRule ?e3_NoRule ?e4_NoRule ?e5_NoRule ?e6_NoRule ?e7_NoRule ?e8_NoRule ?e9_NoRule ?e10_NoRule ?e11_NoRule ?a_NoName ?x_NoName ?k_NoName ?e1_NoName ?e2_NoName ?e3_NoName ?e4_NoName ?e5_NoName ?e6_NoName ?e7_NoName ?e8_NoName ?e9_NoName ?e10_NoName ?e11_NoName ?a_NoText ?x_NoText ?k_NoText ?e1_NoText ?e2_NoText ?e3_NoText ?e4_NoText ?e5_NoText ?e6_NoText ?e7_NoText ?e8_NoText ?e9_NoText ?e10_NoText ?e11_NoText ?a_TooMany ?x_TooMany ?k_TooMany ?e1_TooMany ?e2_TooMany ?e3_TooMany ?e4_TooMany ?e5_TooMany ?e6_TooMany ?e7_TooMany ?e8_TooMany ?e9_TooMany ?e10_TooMany ?e11_TooMany ?a_Nothing ?x_Nothing ?k_Nothing ?e1_Nothing ?e2_Nothing ?e3_Nothing ?e4_Nothing ?e5_Nothing ?e6_Nothing ?e7_Nothing ?e8_Nothing ?e9_Nothing ?e10_Nothing ?e11_Nothing ?s_WideError_WideError ?s_WideError_NoRow ?s_WideError_NoPair ?s_WideError_NoRule ?s_WideError_NoName ?s_WideError_NoText ?s_WideError_TooMany ?s_WideError_Nothing ?s_NoRow_WideError ?s_NoRow_NoRow ?s_NoRow_NoPair ?s_NoRow_NoRule ?s_NoRow_NoName ?s_NoRow_NoText ?s_NoRow_TooMany ?s_NoRow_Nothing ?s_NoPair_WideError ?s_NoPair_NoRow ?s_NoPair_NoPair ?s_NoPair_NoRule ?s_NoPair_NoName ?s_NoPair_NoText ?s_NoPair_TooMany ?s_NoPair_Nothing ?s_NoRule_WideError ?s_NoRule_NoRow ?s_NoRule_NoPair ?s_NoRule_NoRule ?s_NoRule_NoName ?s_NoRule_NoText ?s_NoRule_TooMany ?s_NoRule_Nothing ?s_NoName_WideError ?s_NoName_NoRow ?s_NoName_NoPair ?s_NoName_NoRule ?s_NoName_NoName ?s_NoName_NoText ?s_NoName_TooMany ?s_NoName_Nothing ?s_NoText_WideError ?s_NoText_NoRow ?s_NoText_NoPair ?s_NoText_NoRule ?s_NoText_NoName ?s_NoText_NoText ?s_NoText_TooMany ?s_NoText_Nothing ?s_TooMany_WideError ?s_TooMany_NoRow ?s_TooMany_NoPair ?s_TooMany_NoRule ?s_TooMany_NoName ?s_TooMany_NoText ?s_TooMany_TooMany ?s_TooMany_Nothing ?s_Nothing_WideError ?s_Nothing_NoRow ?s_Nothing_NoPair ?s_Nothing_NoRule ?s_Nothing_NoName ?s_Nothing_NoText ?s_Nothing_TooMany ?s_Nothing_Nothing ?z_ValueError ?z_abs ?z_all ?z_bool ?z_enumerate ?z_int ?z_isinstance ?z_len ?z_list ?z_range ?z_repr ?z_str ?z_tuple
    (case a0 => k_is)
    (case l0 => k_is)
    (case c0 => k_is)
    (case k0 => k_is)
    (case a1 => k_is)
    (case l1 => k_is)
    (case c1 => k_is)
    (case k1 => k_is)
    (case a2 => k_is)
    (case l2 => k_is)
    (case c2 => k_is)
    (case k2 => k_is)
    (case a3 => k_is)
    (case l3 => k_is)
    (case c3 => k_is)
    (case k3 => k_is)
    (case a4 => k_is)
    (case l4 => k_is)
    (case c4 => k_is)
    (case k4 => k_is)
    (case a5 => k_is)
    (case l5 => k_is)
    (case c5 => k_is)
    (case k5 => k_is)
    (case a6 => k_is)
    (case l6 => k_is)
    (case c6 => k_is)
    (case k6 => k_is)
    (case a7 => k_is)
    (case l7 => k_is)
    (case c7 => k_is)
    (case k7 => k_is)
    (case a8 => k_is)
    (case l8 => k_is)
    (case c8 => k_is)
    (case k8 => k_is)
    (case a9 => k_is)
    (case l9 => k_is)
    (case c9 => k_is)
    (case k9 => k_is)
    (case a10 => k_is)
    (case l10 => k_is)
    (case c10 => k_is)
    (case k10 => k_is)
    (case a11 => k_is)
    (case l11 => k_is)
    (case c11 => k_is)
    (case k11 => k_is)
    (case a12 => k_is)
    (case l12 => k_is)
    (case c12 => k_is)
    (case k12 => k_is)
    (case a13 => k_is)
    (case l13 => k_is)
    (case c13 => k_is)
    (case k13 => k_is)
    (case a14 => k_is)
    (case l14 => k_is)
    (case c14 => k_is)
    (case k14 => k_is)
    (case a15 => k_is)
    (case l15 => k_is)
    (case c15 => k_is)
    (case k15 => k_is)
    (case a16 => k_is)
    (case l16 => k_is)
    (case c16 => k_is)
    (case k16 => k_is)
    (case a17 => k_is)
    (case l17 => k_is)
    (case c17 => k_is)
    (case k17 => k_is)
    (case a18 => k_is)
    (case l18 => k_is)
    (case c18 => k_is)
    (case k18 => k_is)
    (case a19 => k_is)
    (case l19 => k_is)
    (case c19 => k_is)
    (case k19 => k_is)
    (case v_MOST_DEEDS => k_is)
    (case v_MOST_INPUTS => k_is)
    (case v_MOST_FIGURES => k_is)
    (case v_FIGURES => k_is)
    (case v_PLACES => k_is)
    (case pa_PLACES => k_is)
    (case pw0_PLACES => k_is)
    (case pw1_PLACES => k_is)
    (case pw2_PLACES => k_is)
    (case pw3_PLACES => k_is)
    (case pw4_PLACES => k_is)
    (case pw5_PLACES => k_is)
    (case pw6_PLACES => k_is)
    (case pw7_PLACES => k_is)
    (case pw8_PLACES => k_is)
    (case pw9_PLACES => k_is)
    (case pw10_PLACES => k_is)
    (case pk_PLACES => exact ⟨⟨_, _, rfl, rfl⟩, ⟨⟨_, _, rfl, rfl⟩, ⟨⟨_, _, rfl, rfl⟩, ⟨⟨_, _, rfl, rfl⟩, ⟨⟨_, _, rfl, rfl⟩, ⟨⟨_, _, rfl, rfl⟩, ⟨⟨_, _, rfl, rfl⟩, ⟨⟨_, _, rfl, rfl⟩, ⟨⟨_, _, rfl, rfl⟩, ⟨⟨_, _, rfl, rfl⟩, ⟨⟨_, _, rfl, rfl⟩, trivial⟩⟩⟩⟩⟩⟩⟩⟩⟩⟩⟩)
    (case pz_PLACES => rfl)
    (case pf_PLACES => exact ⟨⟨("none", 0), by decide +kernel, _, rfl⟩, ⟨⟨("one", 0), by decide +kernel, _, rfl⟩, ⟨⟨("all", 0), by decide +kernel, _, rfl⟩, ⟨⟨("not", 1), by decide +kernel, _, rfl⟩, ⟨⟨("neg", 1), by decide +kernel, _, rfl⟩, ⟨⟨("twice", 1), by decide +kernel, _, rfl⟩, ⟨⟨("and", 2), by decide +kernel, _, rfl⟩, ⟨⟨("or", 2), by decide +kernel, _, rfl⟩, ⟨⟨("xor", 2), by decide +kernel, _, rfl⟩, ⟨⟨("add", 2), by decide +kernel, _, rfl⟩, ⟨⟨("sub", 2), by decide +kernel, _, rfl⟩, trivial⟩⟩⟩⟩⟩⟩⟩⟩⟩⟩⟩)
    (case a_WideError => k_is)
    (case x_WideError => k_exc)
    (case k_WideError => k_is)
    (case e1_WideError => k_is)
    (case e2_WideError => k_is)
    (case e3_WideError => k_is)
    (case e4_WideError => k_is)
    (case e5_WideError => k_is)
    (case e6_WideError => k_is)
    (case e7_WideError => k_is)
    (case e8_WideError => k_is)
    (case e9_WideError => k_is)
    (case e10_WideError => k_is)
    (case e11_WideError => k_is)
    (case a_NoRow => k_is)
    (case x_NoRow => k_exc)
    (case k_NoRow => k_is)
    (case e1_NoRow => k_is)
    (case e2_NoRow => k_is)
    (case e3_NoRow => k_is)
    (case e4_NoRow => k_is)
    (case e5_NoRow => k_is)
    (case e6_NoRow => k_is)
    (case e7_NoRow => k_is)
    (case e8_NoRow => k_is)
    (case e9_NoRow => k_is)
    (case e10_NoRow => k_is)
    (case e11_NoRow => k_is)
    (case a_NoPair => k_is)
    (case x_NoPair => k_exc)
    (case k_NoPair => k_is)
    (case e1_NoPair => k_is)
    (case e2_NoPair => k_is)
    (case e3_NoPair => k_is)
    (case e4_NoPair => k_is)
    (case e5_NoPair => k_is)
    (case e6_NoPair => k_is)
    (case e7_NoPair => k_is)
    (case e8_NoPair => k_is)
    (case e9_NoPair => k_is)
    (case e10_NoPair => k_is)
    (case e11_NoPair => k_is)
    (case a_NoRule => k_is)
    (case x_NoRule => k_exc)
    (case k_NoRule => k_is)
    (case e1_NoRule => k_is)
    (case e2_NoRule => k_is)
    (case e3_NoRule => k_is)
    (case e4_NoRule => k_is)
    (case e5_NoRule => k_is)
    (case e6_NoRule => k_is)
    (case e7_NoRule => k_is)
    (case e8_NoRule => k_is)
    (case e9_NoRule => k_is)
    (case e10_NoRule => k_is)
    (case e11_NoRule => k_is)
    (case a_NoName => k_is)
    (case x_NoName => k_exc)
    (case k_NoName => k_is)
    (case e1_NoName => k_is)
    (case e2_NoName => k_is)
    (case e3_NoName => k_is)
    (case e4_NoName => k_is)
    (case e5_NoName => k_is)
    (case e6_NoName => k_is)
    (case e7_NoName => k_is)
    (case e8_NoName => k_is)
    (case e9_NoName => k_is)
    (case e10_NoName => k_is)
    (case e11_NoName => k_is)
    (case a_NoText => k_is)
    (case x_NoText => k_exc)
    (case k_NoText => k_is)
    (case e1_NoText => k_is)
    (case e2_NoText => k_is)
    (case e3_NoText => k_is)
    (case e4_NoText => k_is)
    (case e5_NoText => k_is)
    (case e6_NoText => k_is)
    (case e7_NoText => k_is)
    (case e8_NoText => k_is)
    (case e9_NoText => k_is)
    (case e10_NoText => k_is)
    (case e11_NoText => k_is)
    (case a_TooMany => k_is)
    (case x_TooMany => k_exc)
    (case k_TooMany => k_is)
    (case e1_TooMany => k_is)
    (case e2_TooMany => k_is)
    (case e3_TooMany => k_is)
    (case e4_TooMany => k_is)
    (case e5_TooMany => k_is)
    (case e6_TooMany => k_is)
    (case e7_TooMany => k_is)
    (case e8_TooMany => k_is)
    (case e9_TooMany => k_is)
    (case e10_TooMany => k_is)
    (case e11_TooMany => k_is)
    (case a_Nothing => k_is)
    (case x_Nothing => k_exc)
    (case k_Nothing => k_is)
    (case e1_Nothing => k_is)
    (case e2_Nothing => k_is)
    (case e3_Nothing => k_is)
    (case e4_Nothing => k_is)
    (case e5_Nothing => k_is)
    (case e6_Nothing => k_is)
    (case e7_Nothing => k_is)
    (case e8_Nothing => k_is)
    (case e9_Nothing => k_is)
    (case e10_Nothing => k_is)
    (case e11_Nothing => k_is)
    (case s_WideError_WideError => k_is)
    (case s_WideError_NoRow => k_is)
    (case s_WideError_NoPair => k_is)
    (case s_WideError_NoRule => k_is)
    (case s_WideError_NoName => k_is)
    (case s_WideError_NoText => k_is)
    (case s_WideError_TooMany => k_is)
    (case s_WideError_Nothing => k_is)
    (case s_NoRow_WideError => k_is)
    (case s_NoRow_NoRow => k_is)
    (case s_NoRow_NoPair => k_is)
    (case s_NoRow_NoRule => k_is)
    (case s_NoRow_NoName => k_is)
    (case s_NoRow_NoText => k_is)
    (case s_NoRow_TooMany => k_is)
    (case s_NoRow_Nothing => k_is)
    (case s_NoPair_WideError => k_is)
    (case s_NoPair_NoRow => k_is)
    (case s_NoPair_NoPair => k_is)
    (case s_NoPair_NoRule => k_is)
    (case s_NoPair_NoName => k_is)
    (case s_NoPair_NoText => k_is)
    (case s_NoPair_TooMany => k_is)
    (case s_NoPair_Nothing => k_is)
    (case s_NoRule_WideError => k_is)
    (case s_NoRule_NoRow => k_is)
    (case s_NoRule_NoPair => k_is)
    (case s_NoRule_NoRule => k_is)
    (case s_NoRule_NoName => k_is)
    (case s_NoRule_NoText => k_is)
    (case s_NoRule_TooMany => k_is)
    (case s_NoRule_Nothing => k_is)
    (case s_NoName_WideError => k_is)
    (case s_NoName_NoRow => k_is)
    (case s_NoName_NoPair => k_is)
    (case s_NoName_NoRule => k_is)
    (case s_NoName_NoName => k_is)
    (case s_NoName_NoText => k_is)
    (case s_NoName_TooMany => k_is)
    (case s_NoName_Nothing => k_is)
    (case s_NoText_WideError => k_is)
    (case s_NoText_NoRow => k_is)
    (case s_NoText_NoPair => k_is)
    (case s_NoText_NoRule => k_is)
    (case s_NoText_NoName => k_is)
    (case s_NoText_NoText => k_is)
    (case s_NoText_TooMany => k_is)
    (case s_NoText_Nothing => k_is)
    (case s_TooMany_WideError => k_is)
    (case s_TooMany_NoRow => k_is)
    (case s_TooMany_NoPair => k_is)
    (case s_TooMany_NoRule => k_is)
    (case s_TooMany_NoName => k_is)
    (case s_TooMany_NoText => k_is)
    (case s_TooMany_TooMany => k_is)
    (case s_TooMany_Nothing => k_is)
    (case s_Nothing_WideError => k_is)
    (case s_Nothing_NoRow => k_is)
    (case s_Nothing_NoPair => k_is)
    (case s_Nothing_NoRule => k_is)
    (case s_Nothing_NoName => k_is)
    (case s_Nothing_NoText => k_is)
    (case s_Nothing_TooMany => k_is)
    (case s_Nothing_Nothing => k_is)
    (case z_ValueError => k_is)
    (case z_abs => k_is)
    (case z_all => k_is)
    (case z_bool => k_is)
    (case z_enumerate => k_is)
    (case z_int => k_is)
    (case z_isinstance => k_is)
    (case z_len => k_is)
    (case z_list => k_is)
    (case z_range => k_is)
    (case z_repr => k_is)
    (case z_str => k_is)
    (case z_tuple => k_is)
