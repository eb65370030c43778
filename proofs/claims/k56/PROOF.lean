import PyProof.Rows.All
import Wide.All
import OpenK.AllK
import Wide.FinOn
import HandS.Base
import HandS.Call
import HandS.List
import HandS.Comp
import HandS.Ends
import HandS.Dict
import HandS.Iter
import HandS.EndBits
import HandS.Words
import HandS.WordsList
import HandS.WordsDict
import HandS.Text
import HandS.Wide
import HandS.WideBits
import HandS.Conv
import HandS.TupLe
import HandS.IsInst
import HandS.ExcIs
import HandS.ExcValue
import HandS.TupSets
import HandS.Zip
import HandS.Walk
import HandS.TupAny
import HandS.Deep
import PyProof.ReprRoads
import PyProof.ReprBulk
import KE.GoesZip
import KE.GoesMore
import KE.GoesEnum
import HandS.DictTup
import KE.KSortTupG
import HandS.TupLen
import HandS.NoneIn
import HandS.Records
import HandS.Flow
import HandS.More
import KE.KDictWalk
import KE.KDictDisplayH
import PyProof.WalkInts
import PyProof.DictTable
import KE.KeyNested
import KE.KDictKeyed
import PyProof.DictMoreH
import HandS.ListItems
import KE.KTurns
import HandS.Star
import PyProof.StrOps2
import HandS.TryOnly
import HandS.WordsExc
import HandS.Style
import HandS.RaiseMore
import HandS.FStr
import HandS.ExcOwn
import HandS.ExcCtx
import HandS.SetFor
import PySem.Challenge.RW_anywide_k56_chains_looked_at
set_option Elab.async false
set_option linter.all false
set_option maxRecDepth 100000
namespace AW
open PySem PySem.Spec PyProof.Rows L2

/-! ### a def's call at one around -/
theorem fn_at {P : Program} {w : World} {K : PySem.W.Frag} {mg : Str → Option Value} {base : Heap} {k : Nat} {f : Addr} {x qual : Str} {st : Stmt} {fd : FuncData} {N ps : List Str}
    (F : Fun K x qual st f fd) (S : FnScope N ps (defScope st)) {A : Around} {outer : List Env} {s : Shared} {H : Hp} {args : Args} {us : List Value} {vs : List V} {Q : VK} {E : XK}
    (hr : Room (k + 1) A) (e0 : Env0 P w K mg base A outer s H) (hb : BindsTo s fd args (ps.zip us)) (r : Vals vs us) (hl : vs.length = ps.length)
    (hbody : ∀ cdv : Value, ∃ t, PSs (cxOf CX0 P w K mg base N qual (defScope st) f cdv A outer s H E).nox (defBody st) t ∧ t { nx := fun _ H' => Q .non H', rt := Q } (start N vs) H) :
    codeAny (model P w) A (.call (.ref f) args) (CR CX0 outer P w H s Q E) s := by
  obtain ⟨oc, od, kV, doc, pm, an, cdv, ct, osl, rfl, lk, hcd⟩ := F.ex
  have keep0 : ∀ b o, base.get? b = some o → s.heap.get? b = some o := fun b o e => (e0.bs b o e).1
  have KX := e0.mod.kin.keeps keep0
  refine codeAny_call_function (Room.depth hr) (KX _ _ lk) rfl S.co S.gen rfl (PySem.W.codeRec_of KX hcd) (hb _ _ _ _ ?_)
  have kinds : ∀ y ∈ ps.zip us, (defScope st).names.lookup y.1 = some .local ∨ ((defScope st).names.lookup y.1 = some .cell ∧ ((cellsFrom (s.heap.objs.size + 1) (defScope st).names []).lookup y.1).isSome = true) := by
    intro y hy
    obtain ⟨n, v⟩ := y
    exact (S.par n (List.of_mem_zip hy).1).elim Or.inl fun q => Or.inr ⟨q, PySem.W.cellsFrom_some _ _ _ (.inl q)⟩
  refine wpAny_newFunctionEnv_cells S.kind kinds ?_
  rintro env rfl s1 ic
  obtain ⟨t, ht, hq⟩ := hbody cdv
  refine ⟨(e0.mod.nolimit.keeps keep0).keeps ic.toInCall.keep, codeAny_func (wpAny_mono (ht.nox.run [] s1 (start N vs) H _ (inv_start S hr.hd e0 hl r ic) hq) ?_ (fun _ _ z => z))⟩
  intro fl s' hs
  cases fl with
  | ret u =>
    obtain ⟨v, σ', H', J, rv, q⟩ := hs
    exact ⟨v, H', J.os, J.bare, J.base, J.hok, rv, q⟩
  | next =>
    obtain ⟨σ', H', J, q⟩ := hs
    exact ⟨V.non, H', J.os, J.bare, J.base, J.hok, rfl, q⟩
  | brk => exact hs.elim fun _ z => z.elim fun _ z => z.2.elim
  | cont => exact hs.elim fun _ z => z.elim fun _ z => z.2.elim

/-! ### the law's own call -/
theorem env_at {P : Program} {w : World} {K : PySem.W.Frag} {mg mb : Str → Option Value} {a : Addr} {s1 : Shared} {vs : List Value} {H : Hp}
    (KX : K.In s1.heap) (hns : s1.heap.Ns mainGlobals mg) (hb : s1.heap.Ns builtinsNs mb) (hbb : ∀ x : Str, x ≠ "__name__" → mb x = bootBuiltins x) (hlim : s1.heap.NoLimit) (hg : s1.gens = #[])
    (ha : s1.heap.get? a = some { cls := .type "list", data := .seq vs.toArray }) (one : ∀ b u, H b = some u → b = a) (out : ∀ o, K.lookup a = some o → H a = none) (ok : HOk P w H s1.heap) :
    Env0 P w K mg (hidT s1.heap H) callerA [] s1 H := by
  have dicts : ∀ {b : Addr} {m : Str → Option Value}, s1.heap.Ns b m → (hidT s1.heap H).Ns b m := by
    rintro b m ⟨o, es, ep, e, d, r⟩
    refine ⟨o, es, ep, hidT_get e ?_, d, r⟩
    match q : H b with
    | none => rfl
    | some u =>
      obtain rfl := one b u q
      have e2 := Option.some.inj (e.symm.trans ha)
      rw [e2] at d
      cases d
  have kin : K.In (hidT s1.heap H) := by
    intro b o e
    refine hidT_get (KX b o e) ?_
    match q : H b with
    | none => rfl
    | some u =>
      obtain rfl := one b u q
      exact q.symm.trans (out o e)
  obtain ⟨mc, l1, l2⟩ := hlim
  exact ⟨rfl, ⟨kin, dicts hns, ⟨mb, dicts hb, hbb⟩, ⟨mc, dicts l1, l2⟩⟩, fun b o e => of_hidT e, Nat.le_of_eq (hidT_size _ _), trivial, (fun b z => nomatch z), ok, .of_eq hg⟩

theorem law_end {P : Program} {w : World} {K : PySem.W.Frag} {mg mb : Str → Option Value} {fa a : Addr} {s1 : Shared} {vs : List Value} {ns : List Int}
    (KX : K.In s1.heap) (hns : s1.heap.Ns mainGlobals mg) (hb : s1.heap.Ns builtinsNs mb) (hbb : ∀ x : Str, x ≠ "__name__" → mb x = bootBuiltins x) (hlim : s1.heap.NoLimit) (hg : s1.gens = #[])
    (ha : s1.heap.get? a = some { cls := .type "list", data := .seq vs.toArray }) (hi : IntsAre vs ns) (hl : ns.length ≤ sizeLine)
    (run : ∀ (base : Heap) (H : Hp), Env0 P w K mg base callerA [] s1 H → SqL K H a (ns.map V.int) →
      codeAny (model P w) callerA (.call (.ref fa) ⟨[.ref a], []⟩) (CR CX0 [] P w H s1 (fun v _ => v = .bl true) E0) s1) :
    codeAny (model P w) callerA (.call (.ref fa) ⟨[.ref a], []⟩) (fun r s' => r = .ok (.ret (.bool true)) ∧ OldK s1.heap s'.heap ∧ s'.os = s1.os ∧ AllBare s'.gens) s1 := by
  have rv := vals_ints hi
  have fin : ∀ H : Hp, HOk P w H s1.heap → (∀ b u, H b = some u → ∃ o xs, u = .frz o (.lst xs)) → ∀ r s', CR CX0 [] P w H s1 (fun v _ => v = .bl true) E0 r s' →
      r = .ok (.ret (.bool true)) ∧ OldK s1.heap s'.heap ∧ s'.os = s1.os ∧ AllBare s'.gens := by
    intro H ok hf r s' h
    match r, h with
    | .ok (.ret u), ⟨v, H', os, bare, un, ok2, rel, q⟩ =>
      obtain rfl : v = .bl true := q
      obtain rfl : u = Value.bool true := rel
      refine ⟨rfl, OldK.of_keep ?_, os, bare⟩
      intro b o e
      match qb : H b with
      | none => exact un.keep b o e qb (fun z => nomatch z) (fun z => nomatch z)
      | some ho =>
        obtain ⟨o2, xs, rfl⟩ := hf b ho qb
        have k1 := (ok b _ qb).1
        have k2 := (ok2 b _ (un.frzs b o2 _ qb)).1
        rw [e] at k1
        cases k1
        exact k2
  match hk : K.lookup a with
  | some o =>
    have e := (KX a o hk).symm.trans ha
    obtain rfl := Option.some.inj e
    have ok : HOk P w (fun _ => none) s1.heap := fun b u z => nomatch z
    refine codeAny_mono (run _ (fun _ => none) (env_at KX hns hb hbb hlim hg ha (fun b u z => nomatch z) (fun _ _ => rfl) ok) ?_) (fin _ ok fun b u z => nomatch z)
    exact .inr ⟨_, vs.toArray, _, hk, rfl, rfl, rfl, by rw [List.size_toArray, hi.length]; exact hl, by simpa using rv⟩
  | none =>
    let o : Obj := { cls := .type "list", data := .seq vs.toArray }
    have at_ : ∀ b u, (if b = a then some (HO.frz o (.lst (ns.map V.int))) else none) = some u → b = a ∧ u = HO.frz o (.lst (ns.map V.int)) := by
      intro b u z
      by_cases hb : b = a
      · rw [if_pos hb] at z
        exact ⟨hb, (Option.some.inj z).symm⟩
      · rw [if_neg hb] at z
        cases z
    have ok : HOk P w (fun b => if b = a then some (HO.frz o (.lst (ns.map V.int))) else none) s1.heap := by
      intro b u z
      obtain ⟨rfl, rfl⟩ := at_ b u z
      exact ⟨ha, by rw [List.length_map]; exact hl, vs, _, rv, ha⟩
    refine codeAny_mono (run _ _ (env_at KX hns hb hbb hlim hg ha (fun b u z => (at_ b u z).1) (fun o' e => absurd (hk.symm.trans e) (fun z => nomatch z)) ok) ?_) (fin _ ok fun b u z => ⟨_, _, (at_ b u z).2⟩)
    exact .inl (.inr ⟨o, if_pos rfl⟩)

theorem walkG {l : PySem.W.OpenLaw} {n : Nat} {q : Program} {loose : List Str} {XP : (Str → Option Value) → Heap → Prop} {YP : World → Heap → Prop} {d : DefRec} {K : Params → PySem.W.Frag}
    (hn : l.most = some n) (hn2 : n ≤ sizeLine) (hdf : d.params.defaults = []) (hY : ∀ (w : World) (h : Heap), YP w h → (K w.params).In h)
    (F : ∀ (w : World) (mg : Str → Option Value) (fa : Addr) (h : Heap), (K w.params).In h → h.Ns mainGlobals mg → mg d.name = some (.ref fa) →
      ∀ (s : Shared) (a : Addr) (ns : List Int) (base : Heap) (H : Hp), ns.length ≤ n → (∀ z ∈ ns, Builtin.Int.intBits z ≤ 1048576) → Env0 l.prog w (K w.params) mg base callerA [] s H → SqL (K w.params) H a (ns.map V.int) →
        codeAny (model l.prog w) callerA (.call (.ref fa) ⟨[.ref a], []⟩) (CR CX0 [] l.prog w H s (fun v _ => v = .bl true) E0) s) :
    PySem.W.WalkO q loose XP YP l.row.toRowW d [] (fun f vs => PySem.call f vs) := by
  apply Att.attach_callB hn hdf
  intro w s0 s1 mg mb fa o pm cd doc a vs ns G Y ho hd hcd hmg hobj hints hlen hbits hg
  have KX := hY w _ Y
  exact law_end KX G.T.g G.T.b G.T.builtins G.T.nolimit hg hobj hints (Nat.le_trans hlen hn2) fun base H e0 hS => F w mg fa _ KX G.T.g hmg s1 a ns base H hlen hbits e0 hS

/-! ### repr of data -/
section
variable {X : Cx}
/-- what a value reads, whatever the state -/
def Rz (X : Cx) (H : Hp) (v : V) (d : PyData) : Prop := ∀ pins σ s u, Inv X pins σ H s → RelV v u → ∃ as, Reads s.heap u d as ∧ sysModules ∉ as
def rRepr (X : Cx) : List V → Hp → VK → Prop := fun xs H Q => ∃ (x : V) (d : PyData), xs = [x] ∧ (Rz X H x d ∨ (Dp X.K H x d ∧ d.hasDict = false)) ∧ d.showable = true ∧ d.depth ≤ 40 ∧ d.shown.length ≤ sizeLine ∧ Q (.str d.shown) H
theorem call_repr (hg : X.A.guards = some []) (hu : X.A.units + 64 < cLine) : CallR X (.builtin "repr") (rRepr X) := by
  intro pins s σ H xs us Q I r h
  obtain ⟨x, d, rfl, hd, hs, hp, hz, q⟩ := h
  match us, r with
  | [u], .cons rx .nil =>
    have rd : ∃ as, Reads s.heap u d as ∧ (d.hasDict = true → sysModules ∉ as) := by
      rcases hd with hd | ⟨hd, hn⟩
      · obtain ⟨as, h1, h2⟩ := hd pins σ s u I rx
        exact ⟨as, h1, fun _ => h2⟩
      · obtain ⟨as, h1⟩ := Dp.reads I d x u hd rx
        exact ⟨as, h1, fun z => by rw [hn] at z; cases z⟩
    obtain ⟨as, h1, h2⟩ := rd
    cases h1 with
    | none => exact PySem.P.repr_of_none ⟨.str _, H, I.tok _, ⟨_, rfl⟩, q⟩
    | bool b => exact PySem.P.repr_of_bool ⟨.str _, H, I.tok _, ⟨_, rfl⟩, by have q' := q; simp only [PyData.shown] at q'; cases b <;> exact q'⟩
    | int i t => exact PySem.P.repr_of_int (by simpa [PyData.showable] using hs) ⟨.str _, H, I.tok _, ⟨_, rfl⟩, by simpa only [PyData.shown] using q⟩
    | str x t => exact PySem.P.repr_of_str ⟨.str _, H, I.tok _, ⟨_, rfl⟩, by simpa only [PyData.shown] using q⟩ (by simpa only [PyData.shown] using hz)
    | list a b c e => exact repr_of_reads' (Reads.list a b c e) hs h2 hg (by omega) (fun _ _ e => e) (fun h' u tk k => ⟨.str _, H, I.kept k, ⟨_, rfl⟩, q⟩) hz
    | tuple a b c e => exact repr_of_reads' (Reads.tuple a b c e) hs h2 hg (by omega) (fun _ _ e => e) (fun h' u tk k => ⟨.str _, H, I.kept k, ⟨_, rfl⟩, q⟩) hz
    | dict a b c e f => exact repr_of_reads' (Reads.dict a b c e f) hs h2 hg (by omega) (fun _ _ e => e) (fun h' u tk k => ⟨.str _, H, I.kept k, ⟨_, rfl⟩, q⟩) hz

theorem Rz.int (H : Hp) (i : Int) : Rz X H (.int i) (.int i) := by
  rintro pins σ s u I ⟨t, rfl⟩
  exact ⟨_, Reads.int i t, (fun z => nomatch z)⟩
theorem Rz.str (H : Hp) (x : Str) : Rz X H (.str x) (.str x) := by
  rintro pins σ s u I ⟨t, rfl⟩
  exact ⟨_, Reads.str x t, (fun z => nomatch z)⟩
theorem rz_all {H : Hp} : ∀ {vs : List V} {ds : List PyData}, Paired (Rz X H) vs ds → ∀ {pins σ s us}, Inv X pins σ H s → Vals vs us → ∃ as, ReadsAll s.heap us ds as ∧ sysModules ∉ as
  | _, _, .nil, _, _, _, _, _, .nil => ⟨_, ReadsAll.nil, (fun z => nomatch z)⟩
  | _, _, .cons h t, _, _, _, _, I, .cons r rs => by
    obtain ⟨as, a1, a2⟩ := h _ _ _ _ I r
    obtain ⟨bs, b1, b2⟩ := rz_all t I rs
    exact ⟨_, ReadsAll.cons a1 b1, fun z => (List.mem_append.mp z).elim a2 b2⟩
theorem Rz.tup {H : Hp} {a : Addr} {xs : List V} {ds : List PyData} (h : SqT X.K H a xs) (hs : Paired (Rz X H) xs ds) : Rz X H (.ref a) (.tuple ds) := by
  intro pins σ s u I r
  obtain rfl : u = Value.ref a := r
  obtain ⟨its, rv, ⟨o, ho, hc, n, hd⟩, _⟩ := I.tuple h
  obtain ⟨as, h1, h2⟩ := rz_all hs I rv
  exact ⟨_, Reads.tuple ho hc hd h1, h2⟩
end
end AW
namespace AW
open PySem PySem.Spec PyProof.Rows L2
section
variable {X : Cx}
def CPowW (i j : Int) : Prop := 0 ≤ j ∧ (Builtin.Int.intBits i : Int) * j ≤ 2 ^ 27
theorem op_powW : OpR X (binaryOp .Pow) (rI CPowW fun i j => .int (i ^ j.toNat)) := opI fun _ _ _ _ _ _ _ hc q => pow_int hc.1 hc.2 q
end
theorem bits_lt {z : Int} {n : Nat} (h : Builtin.Int.intBits z ≤ n) : z.natAbs < 2 ^ n := by
  unfold Builtin.Int.intBits at h
  by_cases e : z = 0
  · subst e
    exact Nat.pos_of_ne_zero (by simp)
  · rw [if_neg (by simpa using e)] at h
    have : z.natAbs ≠ 0 := by omega
    exact (Nat.log2_lt this).mp (by omega)
theorem seed_ok {z c : Int} (h0 : 0 ≤ z) (h1 : z ≤ 2147483629) (h2 : Builtin.Int.intBits c ≤ 1048576) : CPowW (z * 50021 + c) 3 := by
  refine ⟨by decide, ?_⟩
  have hc := bits_lt h2
  have h3 : (z * 50021 + c).natAbs < 2 ^ 1048577 := by
    have a : (z * 50021 + c).natAbs ≤ (z * 50021).natAbs + c.natAbs := Int.natAbs_add_le _ _
    have b : (z * 50021).natAbs ≤ 2 ^ 48 := by omega
    have d : (2 : Nat) ^ 48 ≤ 2 ^ 1048576 := Nat.pow_le_pow_right (by decide) (by decide)
    have e : (2 : Nat) ^ 1048577 = 2 ^ 1048576 + 2 ^ 1048576 := by rw [Nat.pow_succ]; omega
    omega
  have h4 := PyProof.Rows.intBits_le h3
  have e : (2 : Int) ^ 27 = 134217728 := by decide
  rw [e]
  omega
/-! ### what follows an if, shown once -/
def tMid (t u : TS) : TS := fun D σ H => ∃ M : L2.St → Hp → Prop, t { D with nx := M } σ H ∧ ∀ σ2 H2, M σ2 H2 → u D σ2 H2
theorem pss_mid {X : Cx} {st : Stmt} {r : List Stmt} {t u : TS} (a : PS X st t) (b : PSs X r u) : PSs X (st :: r) (tMid t u) := by
  constructor
  rintro pins s σ H D I ⟨M, h1, h2⟩
  apply wpAny_execs_cons
  refine thn (a.run pins s σ H _ I h1) ?_
  intro fl s2 z
  match fl, z with
  | .next, ⟨σ2, H2, I2, m⟩ => exact b.run pins s2 σ2 H2 D I2 (h2 σ2 H2 m)
  | .ret _, z => exact z
  | .brk, z => exact z
  | .cont, z => exact z
/-! ### the well -/
def WL (H : Hp) (a c : Addr) : Prop := a ≠ c ∧ ∃ (cs : List Int) (r s : Int), H a = some (.lst [.ref c, .int r, .int s]) ∧ H c = some (.lst (cs.map V.int))
/-- all but the well stands as it stood -/
def Kp (a c : Addr) (H H' : Hp) : Prop := ∀ b o, b ≠ a → b ≠ c → H b = some o → H' b = some o
theorem Kp.refl (a c : Addr) (H : Hp) : Kp a c H H := fun _ _ _ _ h => h
theorem Kp.trans {a c : Addr} {H H1 H2 : Hp} (h : Kp a c H H1) (k : Kp a c H1 H2) : Kp a c H H2 := fun b o n1 n2 e => k b o n1 n2 (h b o n1 n2 e)
theorem Kp.tup {a c : Addr} {H H' : Hp} (w : WL H a c) (k : Kp a c H H') {b : Addr} {xs : List V} (h : H b = some (.tup xs)) : H' b = some (.tup xs) := by
  obtain ⟨_, cs, r, s, e1, e2⟩ := w
  exact k b _ (ne_of h e1 (fun z => nomatch z)) (ne_of h e2 (fun z => nomatch z)) h
theorem Kp.same {a c : Addr} {H H1 H2 : Hp} (ha : H a = none) (hc : H c = none) (s : Same H H1) (k : Kp a c H1 H2) : Same H H2 := fun b o e => k b o (ne_of_none e ha) (ne_of_none e hc) (s b o e)
theorem same_new {H : Hp} {p : Addr} {o : HO} (h : H p = none) : Same H (upd H p o) := fun b x e => by
  rw [upd_ne (ne_of_none e h)]
  exact e
theorem WL.same {H H' : Hp} {a c : Addr} (w : WL H a c) (k : Same H H') : WL H' a c := by
  obtain ⟨n, cs, r, s, e1, e2⟩ := w
  exact ⟨n, cs, r, s, k _ _ e1, k _ _ e2⟩
theorem WL.ne_new {H : Hp} {a c p : Addr} (w : WL H a c) (h : H p = none) : p ≠ a ∧ p ≠ c := by
  obtain ⟨n, cs, r, s, e1, e2⟩ := w
  exact ⟨(ne_of_none e1 h).symm, (ne_of_none e2 h).symm⟩
theorem WL.upd {H : Hp} {a c p : Addr} {o : HO} (w : WL H a c) (h1 : p ≠ a) (h2 : p ≠ c) : WL (upd H p o) a c := by
  obtain ⟨n, cs, r, s, e1, e2⟩ := w
  exact ⟨n, cs, r, s, by rw [upd_ne h1.symm]; exact e1, by rw [upd_ne h2.symm]; exact e2⟩
theorem Same.kp {a c : Addr} {H H' : Hp} (s : Same H H') : Kp a c H H' := fun b o _ _ e => s b o e
theorem dp_ints {K : PySem.W.Frag} {H : Hp} : ∀ cs : List Int, DpAll K H (cs.map V.int) (cs.map PyData.int)
  | [] => .nil
  | c :: cs => .cons (.int c) (dp_ints cs)
theorem lay_ints : ∀ cs : List Int, PyData.canLayAll0 (cs.map PyData.int) = true ∧ PyData.depthAll (cs.map PyData.int) = 0
  | [] => ⟨by simp only [List.map_nil, PyData.canLayAll0], by simp only [List.map_nil, PyData.depthAll]⟩
  | c :: cs => by
    obtain ⟨h1, h2⟩ := lay_ints cs
    exact ⟨by simp only [List.map_cons, PyData.canLayAll0, PyData.canLay0, h1, Bool.and_self], by simp only [List.map_cons, PyData.depthAll, PyData.depth, h2, Nat.max_self]⟩
theorem shaped_ints (cs : List Int) : SeqAt.shaped (.list (cs.map PyData.int)) = true := by
  obtain ⟨h1, h2⟩ := lay_ints cs
  simp only [SeqAt.shaped, PyData.canLay0, PyData.depth, h1, h2, Bool.true_and]
  decide
theorem dp_strs {K : PySem.W.Frag} {H : Hp} : ∀ cs : List Str, DpAll K H (cs.map V.str) (cs.map PyData.str)
  | [] => .nil
  | c :: cs => .cons (.str c) (dp_strs cs)
theorem lay_strs : ∀ cs : List Str, (∀ x ∈ cs, PyData.strOk x = true) → PyData.canLayAll0 (cs.map PyData.str) = true ∧ PyData.depthAll (cs.map PyData.str) = 0
  | [], _ => ⟨by simp only [List.map_nil, PyData.canLayAll0], by simp only [List.map_nil, PyData.depthAll]⟩
  | c :: cs, h => by
    obtain ⟨h1, h2⟩ := lay_strs cs fun x hx => h x (List.mem_cons_of_mem _ hx)
    exact ⟨by simp only [List.map_cons, PyData.canLayAll0, PyData.canLay0, h1, h c List.mem_cons_self, Bool.and_self], by simp only [List.map_cons, PyData.depthAll, PyData.depth, h2, Nat.max_self]⟩
theorem shaped_strs (cs : List Str) (h : ∀ x ∈ cs, PyData.strOk x = true) : SeqAt.shaped (.list (cs.map PyData.str)) = true := by
  obtain ⟨h1, h2⟩ := lay_strs cs h
  simp only [SeqAt.shaped, PyData.canLay0, PyData.depth, h1, h2, Bool.true_and]
  decide
theorem seq0 (n : Nat) : seqIndex? 0 (n + 1) = some 0 := by
  unfold seqIndex?
  simp
/-! ### the words of deeds, deeds, rows -/
def fwL : List (Str × Int) := [("none", 0), ("one", 0), ("all", 0), ("not", 1), ("neg", 1), ("twice", 1), ("and", 2), ("or", 2), ("xor", 2), ("add", 2), ("sub", 2)]
theorem fw_ok : ∀ x ∈ fwL.map (·.1), PyData.strOk x = true := by decide +kernel
def fwK : List (Key × V) := fwL.map fun p => (Sum.inr p.1, .int p.2)
/-- a deed: its word and its numbers -/
abbrev Deed := Str × List Int
def dV (d : Deed) : List V := .str d.1 :: d.2.map V.int
theorem dv0 (d : Deed) : atI (dV d) 0 = some (.str d.1) := atI_nat (j := 0) rfl
theorem dvN {d : Deed} {k : Nat} {i : Int} (h : d.2[k]? = some i) : atI (dV d) ((k + 1 : Nat) : Int) = some (.int i) := atI_nat (by show (d.2.map V.int)[k]? = _; rw [List.getElem?_map, h]; rfl)
structure DeedOk (m : Int) (d : Deed) : Prop where
  word : (d.1, (d.2.length : Int)) ∈ fwL
  ahead : ∀ i ∈ d.2, 0 ≤ i ∧ i < m
theorem fw_at {z : Int} (h0 : 0 ≤ z) (h1 : z < 11) : ∃ x n, (x, n) ∈ fwL ∧ 0 ≤ n ∧ n ≤ 2 ∧ atI (fwK.map fun kv => kV kv.1) z = some (.str x) ∧ valV fwK (Sum.inr x) = some (.int n) := by
  obtain ⟨k, rfl⟩ := Int.eq_ofNat_of_zero_le h0
  have hk : k = 0 ∨ k = 1 ∨ k = 2 ∨ k = 3 ∨ k = 4 ∨ k = 5 ∨ k = 6 ∨ k = 7 ∨ k = 8 ∨ k = 9 ∨ k = 10 := by omega
  rcases hk with rfl | rfl | rfl | rfl | rfl | rfl | rfl | rfl | rfl | rfl | rfl
  · exact ⟨"none", 0, by decide +kernel, by decide, by decide, by decide +kernel, by decide +kernel⟩
  · exact ⟨"one", 0, by decide +kernel, by decide, by decide, by decide +kernel, by decide +kernel⟩
  · exact ⟨"all", 0, by decide +kernel, by decide, by decide, by decide +kernel, by decide +kernel⟩
  · exact ⟨"not", 1, by decide +kernel, by decide, by decide, by decide +kernel, by decide +kernel⟩
  · exact ⟨"neg", 1, by decide +kernel, by decide, by decide, by decide +kernel, by decide +kernel⟩
  · exact ⟨"twice", 1, by decide +kernel, by decide, by decide, by decide +kernel, by decide +kernel⟩
  · exact ⟨"and", 2, by decide +kernel, by decide, by decide, by decide +kernel, by decide +kernel⟩
  · exact ⟨"or", 2, by decide +kernel, by decide, by decide, by decide +kernel, by decide +kernel⟩
  · exact ⟨"xor", 2, by decide +kernel, by decide, by decide, by decide +kernel, by decide +kernel⟩
  · exact ⟨"add", 2, by decide +kernel, by decide, by decide, by decide +kernel, by decide +kernel⟩
  · exact ⟨"sub", 2, by decide +kernel, by decide, by decide, by decide +kernel, by decide +kernel⟩
theorem awSnoc {α β : Type} {F : α → β → Prop} {x : α} {y : β} (h : F x y) : ∀ {l : List α} {l2 : List β}, Paired F l l2 → Paired F (l ++ [x]) (l2 ++ [y])
  | _, _, .nil => .cons h .nil
  | _, _, .cons r t => .cons r (awSnoc h t)
theorem awMap {α β : Type} {F G : α → β → Prop} (f : ∀ a b, F a b → G a b) : ∀ {l : List α} {l2 : List β}, Paired F l l2 → Paired G l l2
  | _, _, .nil => .nil
  | _, _, .cons r t => .cons (f _ _ r) (awMap f t)
theorem awLen {α β : Type} {F : α → β → Prop} : ∀ {l : List α} {l2 : List β}, Paired F l l2 → l.length = l2.length
  | _, _, .nil => rfl
  | _, _, .cons _ t => congrArg (· + 1) (awLen t)
theorem awGet {α β : Type} {F : α → β → Prop} : ∀ {l : List α} {l2 : List β} {i : Nat} {x : α}, Paired F l l2 → l[i]? = some x → ∃ y, l2[i]? = some y ∧ F x y
  | _, _, _, _, .nil, e => by simp at e
  | _, _, 0, _, .cons r _, e => by
    simp only [List.getElem?_cons_zero, Option.some.injEq] at e
    subst e
    exact ⟨_, rfl, r⟩
  | _, _, i + 1, x, .cons _ t, e => by
    simp only [List.getElem?_cons_succ] at e ⊢
    exact awGet t e
theorem awGet2 {α β : Type} {F : α → β → Prop} {l : List α} {l2 : List β} {i : Nat} {y : β} (h : Paired F l l2) (e : l2[i]? = some y) : ∃ x, l[i]? = some x ∧ F x y := by
  have hi : i < l.length := by
    rw [awLen h]
    exact (List.getElem?_eq_some_iff.mp e).1
  obtain ⟨y2, e2, f⟩ := awGet h (List.getElem?_eq_getElem hi)
  rw [e] at e2
  obtain rfl := Option.some.inj e2
  exact ⟨_, List.getElem?_eq_getElem hi, f⟩
/-- deeds that stand in the heap as tuples -/
abbrev DsAt (H : Hp) : List Addr → List Deed → Prop := Paired fun r d => H r = some (.tup (dV d))
def RowAt (H : Hp) (R : Addr) (m : Int) (ds : List Deed) (o : Int) : Prop := ∃ D rs, H R = some (.tup [.int m, .ref D, .int o]) ∧ H D = some (.tup (rs.map V.ref)) ∧ DsAt H rs ds
structure DsOk (m : Int) (ds : List Deed) : Prop where
  each : ∀ (k : Nat) d, ds[k]? = some d → DeedOk (m + k) d
structure RowOk (m : Int) (ds : List Deed) (o : Int) : Prop where
  m1 : 1 ≤ m
  m3 : m ≤ 3
  len : ds.length ≤ 8
  deeds : DsOk m ds
  o0 : 0 ≤ o
  o1 : o < m + ds.length
/-- all tuples stand -/
def TupsStay (H H' : Hp) : Prop := ∀ b xs, H b = some (.tup xs) → H' b = some (.tup xs)
theorem Same.tups {H H' : Hp} (s : Same H H') : TupsStay H H' := fun b xs e => s b _ e
theorem Kp.tups {a c : Addr} {H H' : Hp} (k : Kp a c H H') (w : WL H a c) : TupsStay H H' := fun b xs e => k.tup w e
theorem TupsStay.trans {H H1 H2 : Hp} (a : TupsStay H H1) (b : TupsStay H1 H2) : TupsStay H H2 := fun c xs e => b c xs (a c xs e)
theorem tups_put {H : Hp} {l : Addr} {xs : List V} {o : HO} (h : H l = some (.lst xs)) : TupsStay H (upd H l o) := fun b ys e => by
  rw [upd_ne (ne_of e h (fun z => nomatch z))]
  exact e
theorem TupsStay.ds {H H' : Hp} (t : TupsStay H H') {rs : List Addr} {ds : List Deed} (h : DsAt H rs ds) : DsAt H' rs ds := awMap (fun r d e => t r _ e) h
theorem TupsStay.row {H H' : Hp} (t : TupsStay H H') {R : Addr} {m o : Int} {ds : List Deed} (h : RowAt H R m ds o) : RowAt H' R m ds o := by
  obtain ⟨D, rs, e1, e2, e3⟩ := h
  exact ⟨D, rs, t _ _ e1, t _ _ e2, t.ds e3⟩
theorem dsOk_snoc {m : Int} {ds : List Deed} {d : Deed} (h : DsOk m ds) (k : DeedOk (m + ds.length) d) : DsOk m (ds ++ [d]) := by
  constructor
  intro i d' e
  by_cases hi : i < ds.length
  · rw [List.getElem?_append_left hi] at e
    exact h.each i d' e
  · rw [List.getElem?_append_right (by omega)] at e
    obtain ⟨h1, h2⟩ := List.getElem?_eq_some_iff.mp e
    have h3 : i = ds.length := by simp only [List.length_cons, List.length_nil] at h1; omega
    subst h3
    simp at h2
    subst h2
    exact k
/-! ### data that is shown in few signs -/
structure Nice (b k : Nat) (d : PyData) : Prop where
  sh : d.showable = true
  lv : d.leavesShort 21 = true
  bk : d.bulk ≤ b
  dp : d.depth ≤ k
theorem Nice.fits {b k : Nat} {d : PyData} (h : Nice b k d) (hb : b ≤ 100000) : d.shown.length ≤ sizeLine := by
  have h1 := PyData.shown_le_bulk 21 (by decide) d h.lv
  have h2 := h.bk
  rw [sizeLine_eq]
  omega
theorem Nice.mono {b b2 k k2 : Nat} {d : PyData} (h : Nice b k d) (hb : b ≤ b2) (hk : k ≤ k2) : Nice b2 k2 d := ⟨h.sh, h.lv, Nat.le_trans h.bk hb, Nat.le_trans h.dp hk⟩
theorem nice_int {i : Int} (h : i.natAbs < 10 ^ 20) : Nice 0 0 (.int i) := by
  refine ⟨?_, ?_, ?_, ?_⟩
  · simp only [PyData.showable, decide_eq_true_eq]
    have : i.natAbs < 2 ^ 70 := Nat.lt_trans h (by decide)
    by_cases e : i.natAbs = 0
    · rw [e]; decide
    · have := (Nat.log2_lt e).mpr this
      omega
  · simp only [PyData.leavesShort, decide_eq_true_eq]
    have e := int_text_length_le10 (k := 20) (by decide) h
    simp only [PyData.shown]
    rw [PySem.ofString_length]
    exact e
  · simp only [PyData.bulk, Nat.le_refl]
  · simp only [PyData.depth, Nat.le_refl]
theorem nice_str {x : Str} {n : Nat} (h : x.cps.size ≤ n) (hx : (x.cps.toList.all fun c => decide (c < 16 ^ 8)) = true) : Nice n 0 (.str x) := by
  refine ⟨?_, ?_, ?_, ?_⟩
  · simp only [PyData.showable]
  · simp only [PyData.leavesShort]
    exact hx
  · simp only [PyData.bulk]
    exact h
  · simp only [PyData.depth, Nat.le_refl]
theorem nice_all {b k : Nat} : ∀ {xs : List PyData}, (∀ x ∈ xs, Nice b k x) → PyData.showableAll xs = true ∧ PyData.leavesShortAll 21 xs = true ∧ PyData.bulkAll xs ≤ xs.length * (b + 1) ∧ PyData.depthAll xs ≤ k
  | [], _ => ⟨by simp only [PyData.showableAll], by simp only [PyData.leavesShortAll], by simp only [PyData.bulkAll, Nat.zero_le], by simp only [PyData.depthAll, Nat.zero_le]⟩
  | x :: xs, h => by
    obtain ⟨h1, h2, h3, h4⟩ := nice_all fun y hy => h y (List.mem_cons_of_mem _ hy)
    obtain ⟨g1, g2, g3, g4⟩ := h x List.mem_cons_self
    refine ⟨by simp only [PyData.showableAll, g1, h1, Bool.and_self], by simp only [PyData.leavesShortAll, g2, h2, Bool.and_self], ?_, ?_⟩
    · simp only [PyData.bulkAll, List.length_cons, Nat.add_mul, Nat.one_mul]
      omega
    · simp only [PyData.depthAll]
      omega
theorem nice_tup {b k n : Nat} {xs : List PyData} (h : ∀ x ∈ xs, Nice b k x) (hn : xs.length * (b + 1) ≤ n) : Nice n (k + 1) (.tuple xs) := by
  obtain ⟨h1, h2, h3, h4⟩ := nice_all h
  exact ⟨by simpa only [PyData.showable] using h1, by simpa only [PyData.leavesShort] using h2, by simp only [PyData.bulk]; omega, by simp only [PyData.depth]; omega⟩
theorem nice_lst {b k n : Nat} {xs : List PyData} (h : ∀ x ∈ xs, Nice b k x) (hn : xs.length * (b + 1) ≤ n) : Nice n (k + 1) (.list xs) := by
  obtain ⟨h1, h2, h3, h4⟩ := nice_all h
  exact ⟨by simpa only [PyData.showable] using h1, by simpa only [PyData.leavesShort] using h2, by simp only [PyData.bulk]; omega, by simp only [PyData.depth]; omega⟩
def deedD (d : Deed) : PyData := .tuple (.str d.1 :: d.2.map PyData.int)
def rowD (m : Int) (ds : List Deed) (o : Int) : PyData := .tuple [.int m, .tuple (ds.map deedD), .int o]
theorem fw_short : ∀ p ∈ fwL, p.1.cps.size ≤ 5 ∧ (p.1.cps.toList.all fun c => decide (c < 16 ^ 8)) = true ∧ p.2 ≤ 2 := by decide +kernel
theorem nice_deed {m : Int} {d : Deed} (h : DeedOk m d) (hm : m ≤ 100) : Nice 18 1 (deedD d) := by
  obtain ⟨h1, h2, h3⟩ := fw_short _ h.word
  refine nice_tup (b := 5) (k := 0) (fun x hx => ?_) ?_
  · rcases List.mem_cons.mp hx with rfl | hx
    · exact nice_str h1 h2
    · obtain ⟨i, hi, rfl⟩ := List.mem_map.mp hx
      obtain ⟨i0, i1⟩ := h.ahead i hi
      exact (nice_int (by omega)).mono (by decide) (by decide)
  · rw [List.length_cons, List.length_map]
    have : (d.2.length : Int) ≤ 2 := h3
    omega
theorem nice_row {m o : Int} {ds : List Deed} (h : RowOk m ds o) : Nice 459 3 (rowD m ds o) := by
  have hm := h.m1
  have hm3 := h.m3
  have hl := h.len
  have ho := h.o0
  have ho1 := h.o1
  refine nice_tup (b := 152) (k := 2) (fun x hx => ?_) (by simp only [List.length_cons, List.length_nil]; decide)
  simp only [List.mem_cons, List.not_mem_nil, or_false] at hx
  rcases hx with rfl | rfl | rfl
  · exact (nice_int (by omega)).mono (by decide) (by decide)
  · refine nice_tup (b := 18) (k := 1) (fun x hx => ?_) ?_
    · obtain ⟨d, hd, rfl⟩ := List.mem_map.mp hx
      obtain ⟨k, hk⟩ := List.mem_iff_getElem?.mp hd
      have hk1 := (List.getElem?_eq_some_iff.mp hk).1
      exact nice_deed (h.deeds.each k d hk) (by omega)
    · rw [List.length_map]
      omega
  · exact (nice_int (by omega)).mono (by decide) (by decide)
/-! ### what the row reads -/
section
variable {X : Cx}
theorem rz_ints (H : Hp) : ∀ l : List Int, Paired (Rz X H) (l.map V.int) (l.map PyData.int)
  | [] => .nil
  | i :: l => .cons (Rz.int H i) (rz_ints H l)
theorem rz_deed {H : Hp} {r : Addr} {d : Deed} (h : H r = some (.tup (dV d))) : Rz X H (.ref r) (deedD d) := Rz.tup (SqT.of h) (.cons (Rz.str H _) (rz_ints H _))
theorem rz_deeds {H : Hp} : ∀ {rs : List Addr} {ds : List Deed}, DsAt H rs ds → Paired (Rz X H) (rs.map V.ref) (ds.map deedD)
  | _, _, .nil => .nil
  | _, _, .cons h t => .cons (rz_deed h) (rz_deeds t)
theorem rz_row {H : Hp} {R : Addr} {m o : Int} {ds : List Deed} (h : RowAt H R m ds o) : Rz X H (.ref R) (rowD m ds o) := by
  obtain ⟨D, rs, e1, e2, e3⟩ := h
  exact Rz.tup (SqT.of e1) (.cons (Rz.int H m) (.cons (Rz.tup (SqT.of e2) (rz_deeds e3)) (.cons (Rz.int H o) .nil)))
/-- a dict of texts and ints -/
abbrev siK (es : List (Str × Int)) : List (Key × V) := es.map fun p => (Sum.inr p.1, .int p.2)
theorem si_reads {prog : Program} {w : World} {h : Heap} : ∀ (es : List (Str × Int)) (vs : List (Key × Value)) (en : List DictEntry), KV (siK es) vs → Pairs (mixKind prog w) en vs →
    ReadsAll h (en.map (·.key)) ((es.map fun p => (PyData.str p.1, PyData.int p.2)).map (·.1)) [] ∧ ReadsAll h (en.map (·.val)) ((es.map fun p => (PyData.str p.1, PyData.int p.2)).map (·.2)) []
  | [], _, _, .nil, .nil => ⟨.nil, .nil⟩
  | (x, i) :: es, _, _, .cons hh t, .cons hk hv hp => by
    obtain ⟨h1, h2⟩ := si_reads es _ _ t hp
    obtain ⟨k1, t1, e1⟩ := hh
    rw [← k1] at hk
    obtain ⟨t2, e2⟩ := Value.isStrOf_shape (x := x) hk
    refine ⟨?_, ?_⟩
    · simp only [List.map_cons]
      rw [e2]
      exact ReadsAll.cons (as := []) (Reads.str x t2) h1
    · simp only [List.map_cons]
      rw [hv, e1]
      exact ReadsAll.cons (as := []) (Reads.int i t1) h2
theorem rz_dict {H : Hp} {C : Addr} {es : List (Str × Int)} (h : H C = some (.dK (siK es))) : Rz X H (.ref C) (.dict (es.map fun p => (PyData.str p.1, PyData.int p.2))) := by
  intro pins σ s u I r
  obtain rfl : u = Value.ref C := r
  obtain ⟨_, hs, vs, hkv, o, en, ep, e1, e2, e3, e4, e5, e6⟩ := I.hok C _ h
  obtain ⟨r1, r2⟩ := si_reads (prog := X.prog) (w := X.w) (h := s.heap) es vs _ hkv e5
  refine ⟨_, Reads.dict e1 e2.1 e3 r1 r2, ?_⟩
  intro z
  simp only [List.append_nil, List.mem_cons, List.not_mem_nil, or_false] at z
  rw [← z] at hs
  simp at hs
end
theorem nice_dict {n : Nat} : ∀ {es : List (Str × Int)}, (∀ p ∈ es, p.1.cps.size ≤ 5 ∧ (p.1.cps.toList.all fun c => decide (c < 16 ^ 8)) = true ∧ p.2.natAbs < 10 ^ 20) → es.length * 7 ≤ n →
    Nice n 1 (.dict (es.map fun p => (PyData.str p.1, PyData.int p.2))) := by
  intro es h hn
  have key : ∀ es : List (Str × Int), (∀ p ∈ es, p.1.cps.size ≤ 5 ∧ (p.1.cps.toList.all fun c => decide (c < 16 ^ 8)) = true ∧ p.2.natAbs < 10 ^ 20) →
      PyData.showableKv (es.map fun p => (PyData.str p.1, PyData.int p.2)) = true ∧ PyData.leavesShortKv 21 (es.map fun p => (PyData.str p.1, PyData.int p.2)) = true ∧ PyData.bulkKv (es.map fun p => (PyData.str p.1, PyData.int p.2)) ≤ es.length * 7 ∧ PyData.depthKv (es.map fun p => (PyData.str p.1, PyData.int p.2)) = 0 := by
    intro es
    induction es with
    | nil => intro _; exact ⟨by simp only [List.map_nil, PyData.showableKv], by simp only [List.map_nil, PyData.leavesShortKv], by simp only [List.map_nil, PyData.bulkKv, Nat.zero_le], by simp only [List.map_nil, PyData.depthKv]⟩
    | cons p es ih =>
      intro h
      obtain ⟨h1, h2, h3, h4⟩ := ih fun q hq => h q (List.mem_cons_of_mem _ hq)
      obtain ⟨a, b, c⟩ := h p List.mem_cons_self
      obtain ⟨i1, i2, i3, i4⟩ := nice_int c
      obtain ⟨s1, s2, s3, s4⟩ := nice_str a b
      refine ⟨by simp only [List.map_cons, PyData.showableKv, i1, s1, h1, Bool.and_self], by simp only [List.map_cons, PyData.leavesShortKv, i2, s2, h2, Bool.and_self], ?_, ?_⟩
      · simp only [List.map_cons, PyData.bulkKv, List.length_cons]
        omega
      · simp only [List.map_cons, PyData.depthKv]
        omega
  obtain ⟨h1, h2, h3, h4⟩ := key es h
  exact ⟨by simpa only [PyData.showable] using h1, by simpa only [PyData.leavesShort] using h2, by simp only [PyData.bulk]; omega, by simp only [PyData.depth]; omega⟩
/-! ### values of rows -/
theorem strEq {x y : Str} (h : decide (V.str x = V.str y) = true) : x = y := V.str.inj (of_decide_eq_true h)
theorem strNe {x y : Str} (h : ¬ decide (V.str x = V.str y) = true) : ¬ x = y := fun e => h (decide_eq_true (congrArg V.str e))
def argAt (d : Deed) (told : List Int) (k : Nat) : Int := told.getD (d.2.getD k 0).toNat 0
def dvalue (x : Str) (A B size : Int) : Int :=
  if x = "none" then 0 else if x = "one" then 1 else if x = "all" then size - 1 else if x = "not" then size - 1 - A else if x = "neg" then -A else if x = "twice" then A + A
  else if x = "and" then Builtin.bitAnd A B else if x = "or" then Builtin.bitOr A B else if x = "xor" then Builtin.bitXor A B else if x = "add" then A + B else A - B
def dval (size : Int) (d : Deed) (told : List Int) : Int := dvalue d.1 (argAt d told 0) (argAt d told 1) size % size
def vals (size : Int) : List Deed → List Int → List Int
  | [], told => told
  | d :: ds, told => vals size ds (told ++ [dval size d told])
theorem vals_append (size : Int) : ∀ (l1 l2 : List Deed) (t : List Int), vals size (l1 ++ l2) t = vals size l2 (vals size l1 t)
  | [], _, _ => rfl
  | d :: l1, l2, t => vals_append size l1 l2 (t ++ [dval size d t])
theorem vals_len {size : Int} : ∀ (ds : List Deed) (t : List Int), (vals size ds t).length = t.length + ds.length
  | [], _ => rfl
  | d :: ds, t => by
    show (vals size ds (t ++ [dval size d t])).length = _
    rw [vals_len ds, List.length_append, List.length_cons, List.length_cons, List.length_nil]
    omega
theorem vals_next {size : Int} {ds : List Deed} {i : Nat} {d : Deed} {t : List Int} (h : ds[i]? = some d) : vals size (ds.take (i + 1)) t = vals size (ds.take i) t ++ [dval size d (vals size (ds.take i) t)] := by
  rw [List.take_add_one, h, vals_append]
  rfl
theorem atI_ints {l : List Int} {o : Int} (h0 : 0 ≤ o) (h1 : o < l.length) : atI (l.map V.int) o = some (.int (l.getD o.toNat 0)) := by
  obtain ⟨k, rfl⟩ := Int.eq_ofNat_of_zero_le h0
  have hk : k < l.length := by omega
  apply atI_nat
  rw [List.getElem?_map, List.getElem?_eq_getElem hk, Int.toNat_natCast, List.getD_eq_getElem?_getD, List.getElem?_eq_getElem hk]
  rfl
theorem fw_one : ∀ p ∈ fwL, ¬ p.1 = "none" → ¬ p.1 = "one" → ¬ p.1 = "all" → 1 ≤ p.2 := by decide +kernel
theorem fw_two' : ∀ p ∈ fwL, (decide (p.1 ∈ (["none", "one", "all", "not", "neg", "twice"] : List Str)) || decide (2 ≤ p.2)) = true := by decide +kernel
theorem fw_two (p : Str × Int) (h : p ∈ fwL) (n1 : ¬ p.1 = "none") (n2 : ¬ p.1 = "one") (n3 : ¬ p.1 = "all") (n4 : ¬ p.1 = "not") (n5 : ¬ p.1 = "neg") (n6 : ¬ p.1 = "twice") : 2 ≤ p.2 := by
  have e := fw_two' p h
  rw [Bool.or_eq_true] at e
  rcases e with e | e
  · have e2 := of_decide_eq_true e
    simp only [List.mem_cons, List.not_mem_nil, or_false] at e2
    rcases e2 with e2 | e2 | e2 | e2 | e2 | e2
    · exact absurd e2 n1
    · exact absurd e2 n2
    · exact absurd e2 n3
    · exact absurd e2 n4
    · exact absurd e2 n5
    · exact absurd e2 n6
  · exact of_decide_eq_true e
theorem arg_of {d : Deed} {told : List Int} (h : DeedOk told.length d) {k : Nat} (hk : k < d.2.length) : ∃ i, d.2[k]? = some i ∧ 0 ≤ i ∧ atI (told.map V.int) i = some (.int (argAt d told k)) := by
  have hg := List.getElem?_eq_getElem hk
  obtain ⟨i0, i1⟩ := h.ahead _ (List.getElem_mem hk)
  refine ⟨d.2[k], hg, i0, ?_⟩
  rw [atI_ints i0 i1]
  unfold argAt
  rw [List.getD_eq_getElem?_getD (l := d.2), hg]
  rfl
theorem arg1 {d : Deed} {told : List Int} (h : DeedOk told.length d) (n1 : ¬ d.1 = "none") (n2 : ¬ d.1 = "one") (n3 : ¬ d.1 = "all") : ∃ i, d.2[0]? = some i ∧ 0 ≤ i ∧ atI (told.map V.int) i = some (.int (argAt d told 0)) :=
  arg_of h (by have := fw_one _ h.word n1 n2 n3; show 0 < d.2.length; have e : (1 : Int) ≤ (d.2.length : Int) := this; omega)
theorem arg2 {d : Deed} {told : List Int} (h : DeedOk told.length d) (n1 : ¬ d.1 = "none") (n2 : ¬ d.1 = "one") (n3 : ¬ d.1 = "all") (n4 : ¬ d.1 = "not") (n5 : ¬ d.1 = "neg") (n6 : ¬ d.1 = "twice") :
    ∃ i, d.2[1]? = some i ∧ 0 ≤ i ∧ atI (told.map V.int) i = some (.int (argAt d told 1)) :=
  arg_of h (by have := fw_two _ h.word n1 n2 n3 n4 n5 n6; show 1 < d.2.length; have e : (2 : Int) ≤ (d.2.length : Int) := this; omega)
/-! ### the low bits of values -/
theorem pw_cast (n : Nat) : (2 : Int) ^ n = ((2 ^ n : Nat) : Int) := (PySem.W.kbt_cast n).symm
theorem pw_le {n k : Nat} (h : n ≤ k) : (2 : Int) ^ n ≤ 2 ^ k := by
  rw [pw_cast, pw_cast]
  exact Int.ofNat_le.mpr (Nat.pow_le_pow_right (by decide) h)
theorem pw_pos (n : Nat) : (0 : Int) < 2 ^ n := Int.pow_pos (by decide)
theorem castMod (a n : Nat) : ((a : Int) % 2 ^ n) = ((a % 2 ^ n : Nat) : Int) := by rw [pw_cast, Int.natCast_emod]
theorem low_and {A B : Int} (n : Nat) (ha : 0 ≤ A) (hb : 0 ≤ B) : Builtin.bitAnd (A % 2 ^ n) (B % 2 ^ n) % 2 ^ n = Builtin.bitAnd A B % 2 ^ n := by
  obtain ⟨a, rfl⟩ := Int.eq_ofNat_of_zero_le ha
  obtain ⟨b, rfl⟩ := Int.eq_ofNat_of_zero_le hb
  rw [castMod, castMod, bitAnd_pp (Int.natCast_nonneg _) (Int.natCast_nonneg _), bitAnd_pp (Int.natCast_nonneg _) (Int.natCast_nonneg _), castMod, castMod]
  simp only [Int.toNat_natCast]
  rw [Nat.and_mod_two_pow, Nat.and_mod_two_pow, Nat.mod_mod, Nat.mod_mod]
theorem low_or {A B : Int} (n : Nat) (ha : 0 ≤ A) (hb : 0 ≤ B) : Builtin.bitOr (A % 2 ^ n) (B % 2 ^ n) % 2 ^ n = Builtin.bitOr A B % 2 ^ n := by
  obtain ⟨a, rfl⟩ := Int.eq_ofNat_of_zero_le ha
  obtain ⟨b, rfl⟩ := Int.eq_ofNat_of_zero_le hb
  rw [castMod, castMod, bitOr_nn (Int.natCast_nonneg _) (Int.natCast_nonneg _), bitOr_nn (Int.natCast_nonneg _) (Int.natCast_nonneg _), castMod, castMod]
  simp only [Int.toNat_natCast]
  rw [Nat.or_mod_two_pow, Nat.or_mod_two_pow, Nat.mod_mod, Nat.mod_mod]
theorem low_xor {A B : Int} (n : Nat) (ha : 0 ≤ A) (hb : 0 ≤ B) : Builtin.bitXor (A % 2 ^ n) (B % 2 ^ n) % 2 ^ n = Builtin.bitXor A B % 2 ^ n := by
  obtain ⟨a, rfl⟩ := Int.eq_ofNat_of_zero_le ha
  obtain ⟨b, rfl⟩ := Int.eq_ofNat_of_zero_le hb
  rw [castMod, castMod, Bits.bitXor_pp (Int.natCast_nonneg _) (Int.natCast_nonneg _), Bits.bitXor_pp (Int.natCast_nonneg _) (Int.natCast_nonneg _), castMod, castMod]
  simp only [Int.toNat_natCast]
  rw [Nat.xor_mod_two_pow, Nat.xor_mod_two_pow, Nat.mod_mod, Nat.mod_mod]
theorem pw_dvd {n k : Nat} (h : n ≤ k) : (2 : Int) ^ n ∣ 2 ^ k := ⟨2 ^ (k - n), by rw [← Int.pow_add]; congr 1; omega⟩
theorem emod_same {a b m : Int} (k : Int) (h : a - b = m * k) : a % m = b % m := Int.emod_eq_emod_iff_emod_sub_eq_zero.mpr (by rw [h]; exact Int.mul_emod_right m k)
theorem dvalue_low' {x : Str} {N c qa qb ra rb A B : Int} (ea : N * qa + ra = A) (eb : N * qb + rb = B) (l1 : Builtin.bitAnd ra rb % N = Builtin.bitAnd A B % N) (l2 : Builtin.bitOr ra rb % N = Builtin.bitOr A B % N)
    (l3 : Builtin.bitXor ra rb % N = Builtin.bitXor A B % N) : dvalue x ra rb N % N = dvalue x A B (N * c) % N := by
  unfold dvalue
  by_cases h1 : x = "none"
  · rw [if_pos h1, if_pos h1]
  rw [if_neg h1, if_neg h1]
  by_cases h2 : x = "one"
  · rw [if_pos h2, if_pos h2]
  rw [if_neg h2, if_neg h2]
  by_cases h3 : x = "all"
  · rw [if_pos h3, if_pos h3]
    exact emod_same (1 - c) (by rw [Int.mul_sub, Int.mul_one]; omega)
  rw [if_neg h3, if_neg h3]
  by_cases h4 : x = "not"
  · rw [if_pos h4, if_pos h4]
    exact emod_same (1 - c + qa) (by rw [Int.mul_add, Int.mul_sub, Int.mul_one]; omega)
  rw [if_neg h4, if_neg h4]
  by_cases h5 : x = "neg"
  · rw [if_pos h5, if_pos h5]
    exact emod_same qa (by omega)
  rw [if_neg h5, if_neg h5]
  by_cases h6 : x = "twice"
  · rw [if_pos h6, if_pos h6]
    exact emod_same (-qa - qa) (by rw [Int.mul_sub, Int.mul_neg]; omega)
  rw [if_neg h6, if_neg h6]
  by_cases h7 : x = "and"
  · rw [if_pos h7, if_pos h7]
    exact l1
  rw [if_neg h7, if_neg h7]
  by_cases h8 : x = "or"
  · rw [if_pos h8, if_pos h8]
    exact l2
  rw [if_neg h8, if_neg h8]
  by_cases h9 : x = "xor"
  · rw [if_pos h9, if_pos h9]
    exact l3
  rw [if_neg h9, if_neg h9]
  by_cases h10 : x = "add"
  · rw [if_pos h10, if_pos h10]
    exact emod_same (-qa - qb) (by rw [Int.mul_sub, Int.mul_neg]; omega)
  rw [if_neg h10, if_neg h10]
  exact emod_same (qb - qa) (by rw [Int.mul_sub]; omega)
theorem dvalue_low {x : Str} {A B : Int} {n k : Nat} (hA : 0 ≤ A) (hB : 0 ≤ B) (h : n ≤ k) : dvalue x (A % 2 ^ n) (B % 2 ^ n) (2 ^ n) % 2 ^ n = dvalue x A B (2 ^ k) % 2 ^ n := by
  obtain ⟨c, hc⟩ := pw_dvd h
  rw [hc]
  exact dvalue_low' (Int.mul_ediv_add_emod A (2 ^ n)) (Int.mul_ediv_add_emod B (2 ^ n)) (low_and n hA hB) (low_or n hA hB) (low_xor n hA hB)
theorem getD_low (N : Int) (l : List Int) (i : Nat) : (l.map (· % N)).getD i 0 = l.getD i 0 % N := by
  rw [List.getD_eq_getElem?_getD, List.getD_eq_getElem?_getD, List.getElem?_map]
  cases l[i]? with
  | none => exact (Int.zero_emod N).symm
  | some y => rfl
theorem arg_nn {told : List Int} (h : ∀ x ∈ told, 0 ≤ x) (d : Deed) (j : Nat) : 0 ≤ argAt d told j := by
  unfold argAt
  rw [List.getD_eq_getElem?_getD]
  cases e : told[(d.2.getD j 0).toNat]? with
  | none => exact Int.le_refl 0
  | some y => exact h y (List.mem_of_getElem? e)
theorem dval_low {d : Deed} {told : List Int} {n k : Nat} (h : ∀ x ∈ told, 0 ≤ x) (hk : n ≤ k) : dval (2 ^ n) d (told.map (· % 2 ^ n)) = dval (2 ^ k) d told % 2 ^ n := by
  unfold dval
  have e : ∀ j, argAt d (told.map (· % 2 ^ n)) j = argAt d told j % 2 ^ n := fun j => getD_low _ _ _
  rw [e, e, dvalue_low (arg_nn h d 0) (arg_nn h d 1) hk, Int.emod_emod_of_dvd _ (pw_dvd hk)]
theorem vals_low {n k : Nat} (hk : n ≤ k) : ∀ (ds : List Deed) (told : List Int), (∀ x ∈ told, 0 ≤ x) → vals (2 ^ n) ds (told.map (· % 2 ^ n)) = (vals (2 ^ k) ds told).map (· % 2 ^ n)
  | [], _, _ => rfl
  | d :: ds, told, h => by
    show vals (2 ^ n) ds (told.map (· % 2 ^ n) ++ [dval (2 ^ n) d (told.map (· % 2 ^ n))]) = (vals (2 ^ k) ds (told ++ [dval (2 ^ k) d told])).map (· % 2 ^ n)
    rw [dval_low h hk, ← vals_low hk ds, List.map_append]
    · rfl
    · intro x hx
      rcases List.mem_append.mp hx with hx | hx
      · exact h x hx
      · rw [List.mem_singleton.mp hx]
        exact Int.emod_nonneg _ (by have := pw_pos k; omega)
theorem vals_range {size : Int} (hs : 0 < size) : ∀ (ds : List Deed) (told : List Int), (∀ x ∈ told, 0 ≤ x ∧ x < size) → ∀ x ∈ vals size ds told, 0 ≤ x ∧ x < size
  | [], _, h => h
  | d :: ds, told, h => by
    refine vals_range hs ds (told ++ [dval size d told]) fun x hx => ?_
    rcases List.mem_append.mp hx with hx | hx
    · exact h x hx
    · rw [List.mem_singleton.mp hx]
      exact ⟨Int.emod_nonneg _ (by omega), Int.emod_lt_of_pos _ hs⟩
/-! ### lists of ints compared -/
theorem eqv_ints : ∀ l : List Int, PyData.eqv (.list (l.map PyData.int)) (.list (l.map PyData.int)) = true := fun l => SeqAt.eqv_refl _ (SeqAt.canLay_of_shaped (shaped_ints l))
theorem dget_at {H : Hp} {a : Addr} {kvs : List (Key × V)} {k : Key} {v : V} (e : H a = some (.dK kvs)) (h : valV kvs k = some v) : DGet H a (kV k) (some v) := h ▸ DGet.k e
theorem fw_cases {x : Str} {n : Nat} (h : (x, (n : Int)) ∈ fwL) : (n = 0 ∧ (x = "none" ∨ x = "one" ∨ x = "all")) ∨ (n = 1 ∧ (x = "not" ∨ x = "neg" ∨ x = "twice")) ∨ (n = 2 ∧ (x = "and" ∨ x = "or" ∨ x = "xor" ∨ x = "add" ∨ x = "sub")) := by
  unfold fwL at h
  simp only [List.mem_cons, List.not_mem_nil, or_false, Prod.mk.injEq] at h
  rcases h with h | h | h | h | h | h | h | h | h | h | h
  · exact .inl ⟨by omega, .inl h.1⟩
  · exact .inl ⟨by omega, .inr (.inl h.1)⟩
  · exact .inl ⟨by omega, .inr (.inr h.1)⟩
  · exact .inr (.inl ⟨by omega, .inl h.1⟩)
  · exact .inr (.inl ⟨by omega, .inr (.inl h.1)⟩)
  · exact .inr (.inl ⟨by omega, .inr (.inr h.1)⟩)
  · exact .inr (.inr ⟨by omega, .inl h.1⟩)
  · exact .inr (.inr ⟨by omega, .inr (.inl h.1)⟩)
  · exact .inr (.inr ⟨by omega, .inr (.inr (.inl h.1))⟩)
  · exact .inr (.inr ⟨by omega, .inr (.inr (.inr (.inl h.1)))⟩)
  · exact .inr (.inr ⟨by omega, .inr (.inr (.inr (.inr h.1)))⟩)
theorem and_lt {A B : Int} {n : Nat} (a0 : 0 ≤ A) (a1 : A < 2 ^ n) (b0 : 0 ≤ B) : Builtin.bitAnd A B % 2 ^ n = Builtin.bitAnd A B := by
  obtain ⟨a, rfl⟩ := Int.eq_ofNat_of_zero_le a0
  obtain ⟨b, rfl⟩ := Int.eq_ofNat_of_zero_le b0
  rw [bitAnd_pp (Int.natCast_nonneg _) (Int.natCast_nonneg _), castMod]
  rw [pw_cast] at a1
  simp only [Int.toNat_natCast]
  rw [Nat.mod_eq_of_lt (Nat.lt_of_le_of_lt Nat.and_le_left (by omega))]
theorem or_lt {A B : Int} {n : Nat} (a0 : 0 ≤ A) (a1 : A < 2 ^ n) (b0 : 0 ≤ B) (b1 : B < 2 ^ n) : Builtin.bitOr A B % 2 ^ n = Builtin.bitOr A B := by
  obtain ⟨a, rfl⟩ := Int.eq_ofNat_of_zero_le a0
  obtain ⟨b, rfl⟩ := Int.eq_ofNat_of_zero_le b0
  rw [bitOr_nn (Int.natCast_nonneg _) (Int.natCast_nonneg _), castMod]
  rw [pw_cast] at a1 b1
  simp only [Int.toNat_natCast]
  rw [Nat.mod_eq_of_lt (Nat.or_lt_two_pow (by omega) (by omega))]
theorem xor_lt {A B : Int} {n : Nat} (a0 : 0 ≤ A) (a1 : A < 2 ^ n) (b0 : 0 ≤ B) (b1 : B < 2 ^ n) : Builtin.bitXor A B % 2 ^ n = Builtin.bitXor A B := by
  obtain ⟨a, rfl⟩ := Int.eq_ofNat_of_zero_le a0
  obtain ⟨b, rfl⟩ := Int.eq_ofNat_of_zero_le b0
  rw [Bits.bitXor_pp (Int.natCast_nonneg _) (Int.natCast_nonneg _), castMod]
  rw [pw_cast] at a1 b1
  simp only [Int.toNat_natCast]
  rw [Nat.mod_eq_of_lt (Nat.xor_lt_two_pow (by omega) (by omega))]
/-! ### all but the first -/
theorem sIx_one (x : V) (xs : List V) : HT.sIx (x :: xs).length 0 (some 1) = 1 := by
  have e : HT.sIx (x :: xs).length 0 (some 1) = min 1 (x :: xs).length := HT.sIx_nat (x :: xs).length 0 1
  rw [e, List.length_cons]
  omega
theorem cutTail (x : V) (xs : List V) : cutV (x :: xs) (some 1) none = xs := by
  have h2 : HT.sIx (x :: xs).length (x :: xs).length none = (x :: xs).length := HT.sIx_none _ _
  unfold cutV
  rw [sIx_one, h2]
  simp
theorem notWhole (x : V) (xs : List V) : ¬ (HT.sIx (x :: xs).length 0 (some 1) = 0 ∧ HT.sIx (x :: xs).length (x :: xs).length none = (x :: xs).length) := by
  rw [sIx_one]
  exact fun h => absurd h.1 (by decide)
theorem intEq {x y : Int} (h : decide (V.int x = V.int y) = true) : x = y := V.int.inj (of_decide_eq_true h)
theorem intNe {x y : Int} (h : ¬ decide (V.int x = V.int y) = true) : ¬ x = y := fun e => h (decide_eq_true (congrArg V.int e))
/-! ### t + u of two tuples at hand, whatever they hold -/
section
variable {X : Cx}
def rCatZ : R2 := fun x y H Q => ∃ a b xs ys, x = .ref a ∧ y = .ref b ∧ H a = some (.tup xs) ∧ H b = some (.tup ys) ∧ xs.length + ys.length ≤ sizeLine ∧ ∀ p H2, Same H H2 → H2 p = some (.tup (xs ++ ys)) → Q (.ref p) H2
theorem op_catZ : OpR X (binaryOp .Add) rCatZ := by
  intro pins s σ H x y v u Q I rx ry h
  obtain ⟨a, b, xs, ys, rfl, rfl, ha, hb, hz, q⟩ := h
  refine op_catA pins s σ H _ _ v u Q I rx ry ⟨a, b, xs, ys, rfl, rfl, SqT.of ha, SqT.of hb, hz, fun e => ?_, fun _ e => ?_, fun _ _ p hp => ?_⟩
  · subst e
    exact q b H (Same.refl H) hb
  · subst e
    exact q a H (Same.refl H) (by rw [List.append_nil]; exact ha)
  · exact q p _ (same_new hp) upd_same
end
theorem awAppend {α β : Type} {F : α → β → Prop} : ∀ {l k : List α} {l2 k2 : List β}, Paired F l l2 → Paired F k k2 → Paired F (l ++ k) (l2 ++ k2)
  | _, _, _, _, .nil, h => h
  | _, _, _, _, .cons r t, h => .cons r (awAppend t h)
theorem dsOk_append {m t : Int} {ds es : List Deed} (h : DsOk m ds) (k : DsOk t es) (e : t = m + ds.length) : DsOk m (ds ++ es) := by
  constructor
  intro i d hi
  by_cases hl : i < ds.length
  · rw [List.getElem?_append_left hl] at hi
    exact h.each i d hi
  · rw [List.getElem?_append_right (by omega)] at hi
    have := k.each _ d hi
    rw [e] at this
    have e2 : m + (ds.length : Int) + ((i - ds.length : Nat) : Int) = m + i := by omega
    rw [e2] at this
    exact this
/-- all but one stands as it stood -/
def But (f : Addr) (H H2 : Hp) : Prop := ∀ b o, b ≠ f → H b = some o → H2 b = some o
theorem But.trans {f : Addr} {H H1 H2 : Hp} (a : But f H H1) (b : But f H1 H2) : But f H H2 := fun c o n e => b c o n (a c o n e)
theorem But.same {f : Addr} {H H2 : Hp} (s : Same H H2) : But f H H2 := fun b o _ e => s b o e
theorem But.put {f : Addr} {H : Hp} {o : HO} : But f H (upd H f o) := fun b u n e => by
  rw [upd_ne n]
  exact e
theorem But.tups {f : Addr} {H H2 : Hp} {xs : List V} (h : But f H H2) (e : H f = some (.lst xs)) : TupsStay H H2 := fun b ys z => h b _ (ne_of z e (fun q => nomatch q)) z
/-! ### the tape -/
def TP (H : Hp) (a : Addr) : Prop := ∃ x y : Int, H a = some (.lst [.int x, .int y])
theorem TP.same {H H2 : Hp} {a : Addr} (h : TP H a) (s : Same H H2) : TP H2 a := by
  obtain ⟨x, y, e⟩ := h
  exact ⟨x, y, s _ _ e⟩
theorem TP.ne_new {H : Hp} {a p : Addr} (h : TP H a) (e : H p = none) : p ≠ a := by
  obtain ⟨x, y, e1⟩ := h
  exact (ne_of_none e1 e).symm
theorem TP.upd {H : Hp} {a p : Addr} {o : HO} (h : TP H a) (n : p ≠ a) : TP (upd H p o) a := by
  obtain ⟨x, y, e1⟩ := h
  exact ⟨x, y, by rw [upd_ne n.symm]; exact e1⟩
theorem But.tape {a : Addr} {H H2 : Hp} (h : But a H H2) (t : TP H a) : TupsStay H H2 := by
  obtain ⟨x, y, e⟩ := t
  exact h.tups e
theorem But.refl (a : Addr) (H : Hp) : But a H H := fun _ _ _ e => e
theorem atI_in {α : Type} {l : List α} {i : Int} (h0 : 0 ≤ i) (h1 : i < l.length) : ∃ v, atI l i = some v ∧ v ∈ l := by
  obtain ⟨k, rfl⟩ := Int.eq_ofNat_of_zero_le h0
  have hk : k < l.length := by omega
  exact ⟨l[k], atI_nat (List.getElem?_eq_getElem hk), List.getElem_mem hk⟩
/-! ### texts in written tuples -/
theorem inS (x : Str) : ∀ l : List Str, inV (.str x) (l.map V.str) = decide (x ∈ l)
  | [] => rfl
  | y :: l => by
    have ih := inS x l
    show (eqV (.str y) (.str x) || inV (.str x) (l.map V.str)) = _
    rw [ih]
    by_cases h : x = y
    · subst h
      simp [eqV]
    · have h2 : ¬ y = x := fun e => h e.symm
      simp [eqV, h, h2]
def tw12 : List Str := ["add", "sub", "and", "xor", "or", "not", "twice", "neg", "all", "one", "none", "add"]
def twC : List Str := ["add", "sub", "twice", "neg", "one"]
theorem tw_zero : ∀ x ∈ (["all", "one", "none"] : List Str), (x, (0 : Int)) ∈ fwL := by decide +kernel
theorem tw_one : ∀ x ∈ (["not", "twice", "neg"] : List Str), (x, (1 : Int)) ∈ fwL := by decide +kernel
theorem tw_two : ∀ x ∈ tw12, x ∈ (["all", "one", "none"] : List Str) ∨ x ∈ (["not", "twice", "neg"] : List Str) ∨ (x, (2 : Int)) ∈ fwL := by decide +kernel
theorem tw_four : ∀ x ∈ (["and", "or", "xor", "not"] : List Str), x ∈ tw12 := by decide +kernel
theorem mem_strs {v : V} {l : List Str} (h : v ∈ l.map V.str) : ∃ x, x ∈ l ∧ v = .str x := by
  obtain ⟨x, hx, e⟩ := List.mem_map.mp h
  exact ⟨x, hx, e.symm⟩
/-! ### bits and carries of rows -/
def fcD (d : Deed) : Int := if d.1 ∈ (["neg", "one"] : List Str) then 1 else 0
def dbit (x : Str) (a b c : Int) : Int :=
  if x = "none" then 0 else if x = "all" then 1 else if x = "one" then c else if x = "twice" then c else if x = "not" then 1 - a else if x = "neg" then Builtin.bitXor (1 - a) c
  else if x = "and" then Builtin.bitAnd a b else if x = "or" then Builtin.bitOr a b else if x = "xor" then Builtin.bitXor a b else Builtin.bitXor (Builtin.bitXor a b) c
def dcar (x : Str) (a b c : Int) : Int :=
  if x = "neg" then Builtin.bitAnd (1 - a) c else if x = "twice" then a else if x = "add" then (a + b + c) / 2 else if x = "sub" then (1 - a + b + c) / 2 else 0
def dbitAt (d : Deed) (c : Int) (told : List Int) : Int := dbit d.1 (argAt d told 0) (argAt d told 1) c
def dcarAt (d : Deed) (c : Int) (told : List Int) : Int := dcar d.1 (argAt d told 0) (argAt d told 1) c
def bts : List Deed → List Int → List Int → List Int
  | d :: ds, c :: cs, told => bts ds cs (told ++ [dbitAt d c told])
  | _, _, told => told
def nxt (ds : List Deed) (cs told : List Int) : List Int := List.zipWith (fun d c => dcarAt d c told) ds cs
abbrev Bit (x : Int) : Prop := x = 0 ∨ x = 1
theorem bit0 : Bit 0 := .inl rfl
theorem bit1 : Bit 1 := .inr rfl
theorem dbit_bit {x : Str} {a b c : Int} (ha : Bit a) (hb : Bit b) (hc : Bit c) : Bit (dbit x a b c) := by
  have n1 : Bit (1 - a) := by rcases ha with rfl | rfl <;> simp [Bit]
  have hx : ∀ {p q : Int}, Bit p → Bit q → Bit (Builtin.bitXor p q) := fun hp hq => by
    rcases hp with rfl | rfl <;> rcases hq with rfl | rfl <;> decide
  have hand : ∀ {p q : Int}, Bit p → Bit q → Bit (Builtin.bitAnd p q) := fun hp hq => by
    rcases hp with rfl | rfl <;> rcases hq with rfl | rfl <;> decide
  have hor : ∀ {p q : Int}, Bit p → Bit q → Bit (Builtin.bitOr p q) := fun hp hq => by
    rcases hp with rfl | rfl <;> rcases hq with rfl | rfl <;> decide
  unfold dbit
  split; · exact bit0
  split; · exact bit1
  split; · exact hc
  split; · exact hc
  split; · exact n1
  split; · exact hx n1 hc
  split; · exact hand ha hb
  split; · exact hor ha hb
  split; · exact hx ha hb
  exact hx (hx ha hb) hc
theorem dcar_bit {x : Str} {a b c : Int} (ha : Bit a) (hb : Bit b) (hc : Bit c) : Bit (dcar x a b c) := by
  unfold dcar
  split
  · rcases ha with rfl | rfl <;> rcases hc with rfl | rfl <;> decide
  split; · exact ha
  split
  · rcases ha with rfl | rfl <;> rcases hb with rfl | rfl <;> rcases hc with rfl | rfl <;> decide
  split
  · rcases ha with rfl | rfl <;> rcases hb with rfl | rfl <;> rcases hc with rfl | rfl <;> decide
  exact bit0
theorem argAt_bit {told : List Int} (h : ∀ x ∈ told, Bit x) (d : Deed) (j : Nat) : Bit (argAt d told j) := by
  unfold argAt
  rw [List.getD_eq_getElem?_getD]
  cases e : told[(d.2.getD j 0).toNat]? with
  | none => exact bit0
  | some y => exact h y (List.mem_of_getElem? e)
theorem bts_next : ∀ {ds : List Deed} {cs t : List Int} {i : Nat} {d : Deed} {c : Int}, ds[i]? = some d → cs[i]? = some c → bts (ds.take (i + 1)) (cs.take (i + 1)) t = bts (ds.take i) (cs.take i) t ++ [dbitAt d c (bts (ds.take i) (cs.take i) t)]
  | [], _, _, _, _, _, h, _ => by simp at h
  | _ :: _, [], _, _, _, _, _, h => by simp at h
  | e :: ds, g :: cs, t, 0, d, c, h, k => by
    simp only [List.getElem?_cons_zero, Option.some.injEq] at h k
    subst h k
    rfl
  | e :: ds, g :: cs, t, i + 1, d, c, h, k => by
    simp only [List.getElem?_cons_succ] at h k
    exact bts_next (t := t ++ [dbitAt e g t]) h k
theorem bts_len : ∀ {ds : List Deed} {cs t : List Int}, ds.length = cs.length → (bts ds cs t).length = t.length + ds.length
  | [], [], _, _ => rfl
  | [], _ :: _, _, h => by simp at h
  | _ :: _, [], _, h => by simp at h
  | d :: ds, c :: cs, t, h => by
    show (bts ds cs (t ++ [dbitAt d c t])).length = _
    rw [bts_len (by simpa using h), List.length_append, List.length_cons, List.length_cons, List.length_nil]
    omega
theorem bts_bits : ∀ {ds : List Deed} {cs t : List Int}, (∀ x ∈ t, Bit x) → (∀ x ∈ cs, Bit x) → ∀ x ∈ bts ds cs t, Bit x
  | [], cs, t, h, _ => by
    unfold bts
    exact h
  | _ :: _, [], t, h, _ => by
    unfold bts
    exact h
  | d :: ds, c :: cs, t, h, k => by
    refine bts_bits (ds := ds) (cs := cs) (t := t ++ [dbitAt d c t]) (fun x hx => ?_) fun x hx => k x (List.mem_cons_of_mem _ hx)
    rcases List.mem_append.mp hx with hx | hx
    · exact h x hx
    · rw [List.mem_singleton.mp hx]
      exact dbit_bit (argAt_bit h d 0) (argAt_bit h d 1) (k c List.mem_cons_self)
theorem nxt_len {ds : List Deed} {cs t : List Int} (h : ds.length = cs.length) : (nxt ds cs t).length = ds.length := by
  unfold nxt
  rw [List.length_zipWith]
  omega
theorem nxt_bits {ds : List Deed} {cs t : List Int} (h : ∀ x ∈ t, Bit x) (k : ∀ x ∈ cs, Bit x) : ∀ x ∈ nxt ds cs t, Bit x := by
  intro x hx
  unfold nxt at hx
  obtain ⟨i, hi⟩ := List.mem_iff_getElem?.mp hx
  rw [List.getElem?_zipWith] at hi
  cases e1 : ds[i]? with
  | none => rw [e1] at hi; simp at hi
  | some d =>
    cases e2 : cs[i]? with
    | none => rw [e1, e2] at hi; simp at hi
    | some c =>
      rw [e1, e2] at hi
      have := Option.some.inj hi
      rw [← this]
      exact dcar_bit (argAt_bit h d 0) (argAt_bit h d 1) (k c (List.mem_of_getElem? e2))
theorem nxt_next {ds : List Deed} {cs t : List Int} {i : Nat} {d : Deed} {c : Int} (h : ds[i]? = some d) (k : cs[i]? = some c) : (nxt ds cs t).take (i + 1) = (nxt ds cs t).take i ++ [dcarAt d c t] := by
  rw [List.take_add_one]
  unfold nxt
  rw [List.getElem?_zipWith, h, k]
  rfl
section
variable {K : PySem.W.Frag} {a b : Addr} {xs ys : List V}
theorem walk_zipT (hn : xs.length = ys.length) : Walk (RZ.ItzT K a b) xs.length (fun H => SqT K H a xs ∧ SqT K H b ys) (YPair (fun i => xs[i]?) (fun i => ys[i]?)) where
  goes := fun i H hi q => ⟨xs, ys, xs[i], ys[i]'(by omega), q.1, q.2, List.getElem?_eq_getElem hi, List.getElem?_eq_getElem (by omega)⟩
  stops := fun H q => ⟨xs, ys, q.1, q.2, .inl (Nat.le_refl _)⟩
  yields := fun i H v H2 hi q y => by
    obtain ⟨T, x, z, h1, h2, h3, h4, h5⟩ := y
    exact ⟨T, x, z, h1, h2, h3, h4 xs q.1, h5 ys q.2⟩
end
/-! ### own exceptions as values -/
section
variable {X : Cx} {K : PySem.W.Frag}
theorem kit_ref {D C : Addr} {b : Bool} (h1 : PySem.W.isClsIn K C = true) (h2 : PySem.W.typeIn K (.ref C) = some (.type "type")) (h3 : PySem.W.subIn K (.ref D) (.ref C) = some b) (h4 : PySem.W.subIn K (.ref C) (.ref C) = some true) : PySem.W.kitOne K (.ref D) (.ref C) = some b := by
  unfold PySem.W.kitOne
  by_cases e : D = C
  · subst e
    rw [h3] at h4
    rw [if_pos (by simp), h4]
  · rw [if_neg (by simpa using e)]
    have e1 : ((PySem.W.clsIn K C).isSome && PySem.W.typeIn K (.ref C) == some (.type "type")) = true := by
      have h1' : (PySem.W.clsIn K C).isSome = true := h1
      rw [h1', h2]
      rfl
    show (if ((PySem.W.clsIn K C).isSome && PySem.W.typeIn K (.ref C) == some (.type "type")) = true then PySem.W.subIn K (.ref D) (.ref C) else none) = some b
    rw [if_pos e1]
    exact h3
theorem kit_ve {D : Addr} {b : Bool} (h : PySem.W.subIn K (.ref D) (.type "ValueError") = some b) : PySem.W.kitOne K (.ref D) (.type "ValueError") = some b := by
  have e1 : PySem.W.kitMeta "ValueError" = true := by decide +kernel
  show (if PySem.W.kitMeta "ValueError" = true then PySem.W.subIn K (.ref D) (.type "ValueError") else none) = some b
  rw [if_pos e1]
  exact h
def rIsX (K : PySem.W.Frag) : List V → Hp → VK → Prop := fun xs H Q => ∃ (a D : Addr) (c : V) (cv : Value) (b : Bool), xs = [.ref a, c] ∧ H a = some (ExO (.ref D) a) ∧ ExcC K D ∧ ClsV c cv ∧ PySem.W.kitOne K (.ref D) cv = some b ∧ Q (.bl b) H
theorem call_isX : CallR X (.builtin "isinstance") (rIsX X.K) := by
  intro pins s σ H xs us Q I r h
  obtain ⟨a, D, c, cv, b, rfl, ha, hD, hc, hk, q⟩ := h
  match us, r with
  | [u1, u2], .cons r1 (.cons r2 .nil) =>
    obtain rfl : u1 = Value.ref a := r1
    obtain rfl := ClsV.eq hc r2
    obtain ⟨⟨oe, vs, hget, ⟨z1, z2⟩, hv, _⟩, _, _⟩ := I.hok a _ ha
    have J : PySem.W.InstAt s.heap a oe D none := by
      obtain ⟨oc, od, oda, osl⟩ := oe
      dsimp only at z1 z2 hv
      subst z1 z2 hv
      exact ⟨hget, rfl, rfl, trivial⟩
    exact PySem.W.kia_one (PySem.W.handS_kitx_exc hD.hg hD.hk hD.hs hD.hd hD.ha hD.hn hD.ht hD.hm) I.kIn J hk (fun z => nomatch z) fun tk => ⟨.bl b, H, I.kept (t' := tk) fun _ _ z => z, rfl, q⟩
end
theorem dp_bls {K : PySem.W.Frag} {H : Hp} : ∀ cs : List Bool, DpAll K H (cs.map V.bl) (cs.map PyData.bool)
  | [] => .nil
  | c :: cs => .cons (.bl c) (dp_bls cs)
theorem lay_bls : ∀ cs : List Bool, PyData.canLayAll0 (cs.map PyData.bool) = true ∧ PyData.depthAll (cs.map PyData.bool) = 0
  | [] => ⟨by simp only [List.map_nil, PyData.canLayAll0], by simp only [List.map_nil, PyData.depthAll]⟩
  | c :: cs => by
    obtain ⟨h1, h2⟩ := lay_bls cs
    exact ⟨by simp only [List.map_cons, PyData.canLayAll0, PyData.canLay0, h1, Bool.and_self], by simp only [List.map_cons, PyData.depthAll, PyData.depth, h2, Nat.max_self]⟩
theorem shaped_bls (cs : List Bool) : SeqAt.shaped (.list (cs.map PyData.bool)) = true := by
  obtain ⟨h1, h2⟩ := lay_bls cs
  simp only [SeqAt.shaped, PyData.canLay0, PyData.depth, h1, h2, Bool.true_and]
  decide
theorem eqv_bls (l : List Bool) : PyData.eqv (.list (l.map PyData.bool)) (.list (l.map PyData.bool)) = true := SeqAt.eqv_refl _ (SeqAt.canLay_of_shaped (shaped_bls l))
/-- a test that is never asked -/
def tNevT : TT := fun _ _ _ => False
theorem pt_never {X : Cx} {e : Expr} : PT X e tNevT := ⟨fun _ _ _ _ _ _ h => h.elim⟩
end AW
namespace KK
open PySem PySem.Spec PyProof.Rows L2 AW
def topS (i : Nat) : Stmt := PySem.Challenge.pw_anywide_k56_chains_looked_at.main.body.getD i (.Pass ⟨0, 0, 0, 0⟩)
abbrev s_all_bits : Stmt := topS 1
abbrev N_all_bits : List Str := ["many", "choices", "place", "bits", "bit"]
theorem sc_all_bits : FnScope N_all_bits ["many"] (defScope s_all_bits) := ⟨rfl, rfl, rfl, by decide +kernel, rfl, by decide +kernel, by decide +kernel⟩
abbrev s_first_carry : Stmt := topS 2
abbrev N_first_carry : List Str := ["row", "deed"]
theorem sc_first_carry : FnScope N_first_carry ["row"] (defScope s_first_carry) := ⟨rfl, rfl, rfl, by decide +kernel, rfl, by decide +kernel, by decide +kernel⟩
abbrev s_deed_bit : Stmt := topS 3
abbrev N_deed_bit : List Str := ["deed", "held", "told", "word", "first", "second"]
theorem sc_deed_bit : FnScope N_deed_bit ["deed", "held", "told"] (defScope s_deed_bit) := ⟨rfl, rfl, rfl, by decide +kernel, rfl, by decide +kernel, by decide +kernel⟩
abbrev s_bits_of : Stmt := topS 4
abbrev N_bits_of : List Str := ["row", "carry", "bits", "told", "deed", "held"]
theorem sc_bits_of : FnScope N_bits_of ["row", "carry", "bits"] (defScope s_bits_of) := ⟨rfl, rfl, rfl, by decide +kernel, rfl, by decide +kernel, by decide +kernel⟩
abbrev s_two_or_more : Stmt := topS 5
abbrev N_two_or_more : List Str := ["one", "other", "third"]
theorem sc_two_or_more : FnScope N_two_or_more ["one", "other", "third"] (defScope s_two_or_more) := ⟨rfl, rfl, rfl, by decide +kernel, rfl, by decide +kernel, by decide +kernel⟩
abbrev s_deed_carry : Stmt := topS 6
abbrev N_deed_carry : List Str := ["deed", "held", "told", "word"]
theorem sc_deed_carry : FnScope N_deed_carry ["deed", "held", "told"] (defScope s_deed_carry) := ⟨rfl, rfl, rfl, by decide +kernel, rfl, by decide +kernel, by decide +kernel⟩
abbrev s_carry_behind : Stmt := topS 7
abbrev N_carry_behind : List Str := ["row", "carry", "told", "deed", "held"]
theorem sc_carry_behind : FnScope N_carry_behind ["row", "carry", "told"] (defScope s_carry_behind) := ⟨rfl, rfl, rfl, by decide +kernel, rfl, by decide +kernel, by decide +kernel⟩
abbrev s_steps : Stmt := topS 8
abbrev N_steps : List Str := ["row", "carry", "told", "bits", "all_told"]
theorem sc_steps : FnScope N_steps ["row", "carry"] (defScope s_steps) := ⟨rfl, rfl, rfl, by decide +kernel, rfl, by decide +kernel, by decide +kernel⟩
abbrev s_carries : Stmt := topS 9
abbrev N_carries : List Str := ["row", "first", "seen", "waiting", "bit", "after"]
theorem sc_carries : FnScope N_carries ["row"] (defScope s_carries) := ⟨rfl, rfl, rfl, by decide +kernel, rfl, by decide +kernel, by decide +kernel⟩
abbrev s_is_whole : Stmt := topS 11
abbrev N_is_whole : List Str := ["thing"]
theorem sc_is_whole : FnScope N_is_whole ["thing"] (defScope s_is_whole) := ⟨rfl, rfl, rfl, by decide +kernel, rfl, by decide +kernel, by decide +kernel⟩
abbrev s_renumbered : Stmt := topS 12
abbrev N_renumbered : List Str := ["deed", "numbers", "number"]
theorem sc_renumbered : FnScope N_renumbered ["deed", "numbers"] (defScope s_renumbered) := ⟨rfl, rfl, rfl, by decide +kernel, rfl, by decide +kernel, by decide +kernel⟩
abbrev s_first_alikes : Stmt := topS 14
abbrev N_first_alikes : List Str := ["row", "told", "looks", "carry", "bits", "look"]
theorem sc_first_alikes : FnScope N_first_alikes ["row"] (defScope s_first_alikes) := ⟨rfl, rfl, rfl, by decide +kernel, rfl, by decide +kernel, by decide +kernel⟩
abbrev s_is_had : Stmt := topS 15
abbrev N_is_had : List Str := ["row", "value", "deed"]
theorem sc_is_had : FnScope N_is_had ["row", "value"] (defScope s_is_had) := ⟨rfl, rfl, rfl, by decide +kernel, rfl, by decide +kernel, by decide +kernel⟩
abbrev s_fitting : Stmt := topS 16
abbrev N_fitting : List Str := ["row", "firsts", "drops", "sames", "value"]
theorem sc_fitting : FnScope N_fitting ["row"] (defScope s_fitting) := ⟨rfl, rfl, rfl, by decide +kernel, rfl, by decide +kernel, by decide +kernel⟩
abbrev s_dropped : Stmt := topS 17
abbrev N_dropped : List Str := ["row", "value", "many", "deeds", "out", "at", "numbers", "left", "number", "deed"]
theorem sc_dropped : FnScope N_dropped ["row", "value"] (defScope s_dropped) := ⟨rfl, rfl, rfl, by decide +kernel, rfl, by decide +kernel, by decide +kernel⟩
abbrev s_brought_back : Stmt := topS 18
abbrev N_brought_back : List Str := ["row", "value", "many", "deeds", "out", "numbers", "deed"]
theorem sc_brought_back : FnScope N_brought_back ["row", "value"] (defScope s_brought_back) := ⟨rfl, rfl, rfl, by decide +kernel, rfl, by decide +kernel, by decide +kernel⟩
abbrev s_is_fitting : Stmt := topS 19
abbrev N_is_fitting : List Str := ["row", "rule", "value"]
theorem sc_is_fitting : FnScope N_is_fitting ["row", "rule", "value"] (defScope s_is_fitting) := ⟨rfl, rfl, rfl, by decide +kernel, rfl, by decide +kernel, by decide +kernel⟩
abbrev s_put_by : Stmt := topS 20
abbrev N_put_by : List Str := ["row", "rule", "value"]
theorem sc_put_by : FnScope N_put_by ["row", "rule", "value"] (defScope s_put_by) := ⟨rfl, rfl, rfl, by decide +kernel, rfl, by decide +kernel, by decide +kernel⟩
abbrev s_is_the_very : Stmt := topS 21
abbrev N_is_the_very : List Str := ["thing", "wanted", "part", "wanted_part"]
theorem sc_is_the_very : FnScope N_is_the_very ["thing", "wanted"] (defScope s_is_the_very) := ⟨rfl, rfl, rfl, by decide +kernel, rfl, by decide +kernel, by decide +kernel⟩
abbrev s_is_step : Stmt := topS 22
abbrev N_is_step : List Str := ["row", "thing", "rule", "value", "behind"]
theorem sc_is_step : FnScope N_is_step ["row", "thing"] (defScope s_is_step) := ⟨rfl, rfl, rfl, by decide +kernel, rfl, by decide +kernel, by decide +kernel⟩
abbrev s_is_chain : Stmt := topS 23
abbrev N_is_chain : List Str := ["row", "thing", "step"]
theorem sc_is_chain : FnScope N_is_chain ["row", "thing"] (defScope s_is_chain) := ⟨rfl, rfl, rfl, by decide +kernel, rfl, by decide +kernel, by decide +kernel⟩
abbrev s_law_tape : Stmt := topS 25
abbrev N_law_tape : List Str := ["script", "start", "cell"]
theorem sc_law_tape : FnScope N_law_tape ["script", "start"] (defScope s_law_tape) := ⟨rfl, rfl, rfl, by decide +kernel, rfl, by decide +kernel, by decide +kernel⟩
abbrev s_law_digit : Stmt := topS 26
abbrev N_law_digit : List Str := ["tape", "many", "found", "more"]
theorem sc_law_digit : FnScope N_law_digit ["tape", "many"] (defScope s_law_digit) := ⟨rfl, rfl, rfl, by decide +kernel, rfl, by decide +kernel, by decide +kernel⟩
abbrev s_law_deed : Stmt := topS 27
abbrev N_law_deed : List Str := ["tape", "ahead", "left", "some", "word", "numbers"]
theorem sc_law_deed : FnScope N_law_deed ["tape", "ahead", "left"] (defScope s_law_deed) := ⟨rfl, rfl, rfl, by decide +kernel, rfl, by decide +kernel, by decide +kernel⟩
abbrev s_law_carrying : Stmt := topS 28
abbrev N_law_carrying : List Str := ["deeds", "deed"]
theorem sc_law_carrying : FnScope N_law_carrying ["deeds"] (defScope s_law_carrying) := ⟨rfl, rfl, rfl, by decide +kernel, rfl, by decide +kernel, by decide +kernel⟩
abbrev s_law_row : Stmt := topS 29
abbrev N_law_row : List Str := ["tape", "many", "most", "left", "deeds", "k", "out"]
theorem sc_law_row : FnScope N_law_row ["tape", "many", "most", "left"] (defScope s_law_row) := ⟨rfl, rfl, rfl, by decide +kernel, rfl, by decide +kernel, by decide +kernel⟩
abbrev s_law_bit : Stmt := topS 30
abbrev N_law_bit : List Str := ["deed", "carry", "bits", "word", "one", "other"]
theorem sc_law_bit : FnScope N_law_bit ["deed", "carry", "bits"] (defScope s_law_bit) := ⟨rfl, rfl, rfl, by decide +kernel, rfl, by decide +kernel, by decide +kernel⟩
abbrev s_law_carry : Stmt := topS 31
abbrev N_law_carry : List Str := ["deed", "carry", "bits", "word"]
theorem sc_law_carry : FnScope N_law_carry ["deed", "carry", "bits"] (defScope s_law_carry) := ⟨rfl, rfl, rfl, by decide +kernel, rfl, by decide +kernel, by decide +kernel⟩
abbrev s_law_step : Stmt := topS 32
abbrev N_law_step : List Str := ["row", "carry", "bits", "told", "deed", "one"]
theorem sc_law_step : FnScope N_law_step ["row", "carry", "bits"] (defScope s_law_step) := ⟨rfl, rfl, rfl, by decide +kernel, rfl, by decide +kernel, by decide +kernel⟩
abbrev s_law_first : Stmt := topS 33
abbrev N_law_first : List Str := ["row", "deed"]
theorem sc_law_first : FnScope N_law_first ["row"] (defScope s_law_first) := ⟨rfl, rfl, rfl, by decide +kernel, rfl, by decide +kernel, by decide +kernel⟩
abbrev s_law_bits : Stmt := topS 34
abbrev N_law_bits : List Str := ["many", "found", "k", "some"]
theorem sc_law_bits : FnScope N_law_bits ["many"] (defScope s_law_bits) := ⟨rfl, rfl, rfl, by decide +kernel, rfl, by decide +kernel, by decide +kernel⟩
abbrev s_law_rewritten : Stmt := topS 35
abbrev N_law_rewritten : List Str := ["tape", "deed", "at", "word", "ways", "some", "one", "other"]
theorem sc_law_rewritten : FnScope N_law_rewritten ["tape", "deed", "at"] (defScope s_law_rewritten) := ⟨rfl, rfl, rfl, by decide +kernel, rfl, by decide +kernel, by decide +kernel⟩
abbrev s_law_long_row : Stmt := topS 36
abbrev N_law_long_row : List Str := ["tape", "row", "turn", "many", "deeds", "out", "at", "number", "more", "last", "join"]
theorem sc_law_long_row : FnScope N_law_long_row ["tape"] (defScope s_law_long_row) := ⟨rfl, rfl, rfl, by decide +kernel, rfl, by decide +kernel, by decide +kernel⟩
abbrev s_law_used : Stmt := topS 37
abbrev N_law_used : List Str := ["row", "value", "deed"]
theorem sc_law_used : FnScope N_law_used ["row", "value"] (defScope s_law_used) := ⟨rfl, rfl, rfl, by decide +kernel, rfl, by decide +kernel, by decide +kernel⟩
abbrev s_law_up_to : Stmt := topS 38
abbrev N_law_up_to : List Str := ["row", "value", "deeds"]
theorem sc_law_up_to : FnScope N_law_up_to ["row", "value"] (defScope s_law_up_to) := ⟨rfl, rfl, rfl, by decide +kernel, rfl, by decide +kernel, by decide +kernel⟩
abbrev s_law_one_worth : Stmt := topS 39
abbrev N_law_one_worth : List Str := ["row", "one", "other", "longer", "met", "at", "bits", "told", "later"]
theorem sc_law_one_worth : FnScope N_law_one_worth ["row", "one", "other"] (defScope s_law_one_worth) := ⟨rfl, rfl, rfl, by decide +kernel, rfl, by decide +kernel, by decide +kernel⟩
abbrev s_law_first_like : Stmt := topS 40
abbrev N_law_first_like : List Str := ["row", "value", "other"]
theorem sc_law_first_like : FnScope N_law_first_like ["row", "value"] (defScope s_law_first_like) := ⟨rfl, rfl, rfl, by decide +kernel, rfl, by decide +kernel, by decide +kernel⟩
abbrev s_law_without : Stmt := topS 41
abbrev N_law_without : List Str := ["row", "value", "many", "deeds", "out", "found", "k", "deed", "one"]
theorem sc_law_without : FnScope N_law_without ["row", "value"] (defScope s_law_without) := ⟨rfl, rfl, rfl, by decide +kernel, rfl, by decide +kernel, by decide +kernel⟩
abbrev s_law_with : Stmt := topS 42
abbrev N_law_with : List Str := ["row", "value", "other", "named", "found", "one", "deed"]
theorem sc_law_with : FnScope N_law_with ["row", "value", "other"] (defScope s_law_with) := ⟨rfl, rfl, rfl, by decide +kernel, rfl, by decide +kernel, by decide +kernel⟩
abbrev s_law_fitting : Stmt := topS 43
abbrev N_law_fitting : List Str := ["row", "value", "found"]
theorem sc_law_fitting : FnScope N_law_fitting ["row"] (defScope s_law_fitting) := ⟨rfl, rfl, rfl, by decide +kernel, rfl, by decide +kernel, by decide +kernel⟩
abbrev s_law_put : Stmt := topS 44
abbrev N_law_put : List Str := ["row", "rule", "value"]
theorem sc_law_put : FnScope N_law_put ["row", "rule", "value"] (defScope s_law_put) := ⟨rfl, rfl, rfl, by decide +kernel, rfl, by decide +kernel, by decide +kernel⟩
abbrev s_law_made : Stmt := topS 45
abbrev N_law_made : List Str := ["tape", "row", "chain", "some", "rule", "value"]
theorem sc_law_made : FnScope N_law_made ["tape", "row"] (defScope s_law_made) := ⟨rfl, rfl, rfl, by decide +kernel, rfl, by decide +kernel, by decide +kernel⟩
abbrev s_law_right : Stmt := topS 46
abbrev N_law_right : List Str := ["row", "thing", "step"]
theorem sc_law_right : FnScope N_law_right ["row", "thing"] (defScope s_law_right) := ⟨rfl, rfl, rfl, by decide +kernel, rfl, by decide +kernel, by decide +kernel⟩
abbrev s_law_odd_row : Stmt := topS 47
abbrev N_law_odd_row : List Str := ["tape", "row", "many", "deeds", "out", "some", "at", "other", "truths", "one"]
theorem sc_law_odd_row : FnScope N_law_odd_row ["tape", "row"] (defScope s_law_odd_row) := ⟨rfl, rfl, rfl, by decide +kernel, rfl, by decide +kernel, by decide +kernel⟩
abbrev s_law_bent_step : Stmt := topS 48
abbrev N_law_bent_step : List Str := ["tape", "step", "rule", "value", "row", "way", "odd", "other", "some"]
theorem sc_law_bent_step : FnScope N_law_bent_step ["tape", "step"] (defScope s_law_bent_step) := ⟨rfl, rfl, rfl, by decide +kernel, rfl, by decide +kernel, by decide +kernel⟩
abbrev s_law_bent : Stmt := topS 49
abbrev N_law_bent : List Str := ["tape", "chain", "way", "at"]
theorem sc_law_bent : FnScope N_law_bent ["tape", "chain"] (defScope s_law_bent) := ⟨rfl, rfl, rfl, by decide +kernel, rfl, by decide +kernel, by decide +kernel⟩
abbrev s_law : Stmt := topS 50
abbrev N_law : List Str := ["script", "start", "tape", "row", "chain", "turn", "one", "kept", "found"]
theorem sc_law : FnScope N_law ["script"] (defScope s_law) := ⟨rfl, rfl, rfl, by decide +kernel, rfl, by decide +kernel, by decide +kernel⟩
section
variable {P : Program} {w : World} {K : PySem.W.Frag} {mg : Str → Option Value} {base : Heap}
/-! ### dicts whose keys are tuples: entries, walks, displays, the least value -/
section dts
theorem dt_raw {H : Hp} {h : Heap} {d : Addr} {kvs : List (List Key × V)} (ok : ObjOk P w H h d (.dT kvs)) :
    (d == sysModules) = false ∧ ∃ es ep, h.DictRaw d es ep ∧ es.size = kvs.length ∧ ∀ (i : Nat) (hi : i < es.size), ∃ k v q, kvs[i]? = some (k, v) ∧ es[i].key = .ref q ∧ H q = some (.tup (k.map kV)) ∧ RelV v es[i].val := by
  obtain ⟨_, hs, xs, pr, o, es, ep, ho, hx, hdt, he, _⟩ := ok
  have l1 : es.size = xs.length := size_of_entries he
  refine ⟨hs, es, ep, ⟨o, ho, hx, hdt⟩, l1.trans (awLen pr).symm, fun i hi => ?_⟩
  have hi2 : i < xs.length := by omega
  obtain ⟨⟨k, v⟩, h1, h2, h3, h4⟩ := awGet2 pr (List.getElem?_eq_getElem hi2)
  have e : es.toList[i]? = some (entryOfKey (tupleKind (mixKind P w)) xs[i]) := by
    rw [he, List.getElem?_map, List.getElem?_eq_getElem hi2]
    rfl
  have e2 : es[i] = entryOfKey (tupleKind (mixKind P w)) xs[i] := by
    rw [Array.getElem?_toList, Array.getElem?_eq_getElem hi] at e
    exact Option.some.inj e
  refine ⟨k, v, xs[i].2.1, h1, ?_, h3, ?_⟩
  · rw [e2]
    rfl
  · rw [e2]
    exact h4
/-- the pairs, each a new tuple with the key's own tuple -/
def ItT (d : Addr) (o : Obj) (kvs : List (List Key × V)) : It where
  go := fun i H => H d = some (.frz o (.dT kvs)) ∧ i < kvs.length
  yld := fun i H x H' => ∃ (T q : Addr) (k : List Key) (v : V), kvs[i]? = some (k, v) ∧ H q = some (.tup (k.map kV)) ∧ x = .ref T ∧ H T = none ∧ H' = upd H T (.tup [.ref q, v])
  stop := fun i H => H d = some (.frz o (.dT kvs)) ∧ kvs.length ≤ i
theorem turn_T {d : Addr} {o : Obj} {kvs : List (List Key × V)} {elts : List Expr} {kk : Nat} {tpos : Pos} (it : Addr) {ep : Nat} {es : Array DictEntry} (hod : o.data = .dict es ep) :
    Turn P w K (.Tuple elts kk tpos) (ItT d o kvs) [it] it (fun i h => ∃ x y, IsItemIter h it d i kvs.length ep x y) where
  mem := List.mem_singleton.mpr rfl
  obj := fun i h st b hb => by
    obtain rfl := List.mem_singleton.mp hb
    obtain ⟨x, y, e⟩ := st
    exact ⟨_, e, fun v z => nomatch z⟩
  keep := fun i h h' st k => by
    obtain ⟨x, y, e⟩ := st
    exact ⟨x, y, k it (List.mem_singleton.mpr rfl) _ e⟩
  item := by
    intro X hP hw hK hc i pins s σ H E I hf st hg
    subst hP hw hK
    obtain ⟨hd, hi⟩ := hg
    obtain ⟨hg1, okd⟩ := I.hok d _ hd
    obtain ⟨_, es', ep', raw, sz, ent⟩ := dt_raw okd
    have raw' := raw
    obtain ⟨o', ho', _, hdt'⟩ := raw'
    obtain rfl : o' = o := Option.some.inj (ho'.symm.trans hg1)
    obtain ⟨rfl, rfl⟩ := dict_ep hod hdt'
    obtain ⟨x, y, he⟩ := st
    have hi' : i < es'.size := by omega
    obtain ⟨k, v, q, hkv, hkey, hq, rv⟩ := ent i hi'
    rw [← sz] at he
    have below : it < s.heap.objs.size := Heap.lt_size he
    refine wpAny_pyNext_items_item_raw he raw hi' fun h' ho hT _ hk => ?_
    refine ⟨_, rfl, wpAny_letOwnedTupleGo_items (s := { s with heap := h' }) ho fun h2 he2 sb => ?_⟩
    have there : h2.get? s.heap.objs.size = some { cls := .type "tuple", data := .seq #[es'[i].key, es'[i].val] } := (sb.2 _ (Nat.ne_of_gt below)).trans hT
    have laid : ObjOk X.prog X.w (upd H s.heap.objs.size (.tup [.ref q, v])) h2 s.heap.objs.size (.tup [.ref q, v]) :=
      ⟨by show 2 ≤ sizeLine; decide, [es'[i].key, es'[i].val], .cons hkey (.cons rv .nil), ⟨_, there, rfl, _, rfl⟩⟩
    refine ⟨.ref s.heap.objs.size, _, I.turnedNew (t' := s.toks) (ch := [it]) (fun b ob hb e => ?_) hf (Nat.le_refl _) laid, rfl, ⟨_, q, k, v, hkv, hq, rfl, I.hok.fresh (Nat.le_refl _), rfl⟩, ⟨es'[i].key, es'[i].val, by rw [← sz]; exact he2⟩, fun b hb => ?_⟩
    · have nb : b ≠ it := fun z => hb (List.mem_singleton.mpr z)
      exact (sb.2 b nb).trans (hk b ob nb e)
    · obtain rfl := List.mem_singleton.mp hb
      rw [upd_ne (Nat.ne_of_lt below)]
      exact (hf b hb).1
  done := by
    intro X hP hw hK hc i pins s σ H E I hf st hg
    subst hP hw hK
    obtain ⟨hd, hi⟩ := hg
    obtain ⟨f0, f1, f2, f3, f4, f5⟩ := hf it (List.mem_singleton.mpr rfl)
    obtain ⟨hg1, okd⟩ := I.hok d _ hd
    obtain ⟨_, es', ep', raw, sz, _⟩ := dt_raw okd
    have raw' := raw
    obtain ⟨o', ho', _, hdt'⟩ := raw'
    obtain rfl : o' = o := Option.some.inj (ho'.symm.trans hg1)
    obtain ⟨rfl, rfl⟩ := dict_ep hod hdt'
    obtain ⟨x, y, he⟩ := st
    rw [← sz] at he
    refine wpAny_pyNext_items_end_raw (I.ok.hd hc) he raw (by omega) fun h' eb => ⟨rfl, ?_⟩
    exact I.turned (t' := s.toks) (fun b ob hb e => eb b ob hb e) f0 f1 f3 f4 f5
  self := fun A i s Q E st h => by
    obtain ⟨x, y, e⟩ := st
    exact wpAny_pyIter_itemiter e h
variable {X : Cx} {e : Expr} {td : TE} {apos cpos : Pos}
def iItT (td : TE) : TI := fun σ H R => td σ H fun x H1 => ∃ d o kvs, x = .ref d ∧ H1 d = some (.frz o (.dT kvs)) ∧ R (ItT d o kvs) H1
theorem pi_itT {elts : List Expr} {kk : Nat} {tpos : Pos} (he : PE X e td) (hb : attributeBase e "items" X.env (eval e X.env) = eval e X.env := by rfl) (hl : (apos.endLine == cpos.line) = true := by rfl) :
    PI X (.Tuple elts kk tpos) (.Call (.Attribute e "items" apos) [] [] cpos) (iItT td) := by
  constructor
  intro pins s σ H R I h
  refine wpAny_Call_method (T := "dict") (id := "dict.items") hb rfl hl F.plainAttrs_dict F.slot_dict_items F.type_dict_items (thn (he.run pins s σ H _ I h) ?_)
  rintro u s1 ⟨x, H1, I1, rx, d, o, kvs, rfl, hd, q⟩
  obtain rfl : u = Value.ref d := rx
  obtain ⟨hg1, okd⟩ := I1.hok d _ hd
  obtain ⟨hs, es, ep, raw, sz, _⟩ := dt_raw okd
  have raw' := raw
  obtain ⟨o', ho', hx', hdt'⟩ := raw'
  obtain rfl : o' = o := Option.some.inj (ho'.symm.trans hg1)
  have I2 : Inv X pins σ H1 { s1 with heap := s1.heap.push { cls := .type "dict_items", data := .fields #[.ref d] } } := I1.kept (t' := s1.toks) fun b ob z => Heap.get?_push_of_some _ z
  refine ⟨raw.typeIs, fun a z => ⟨o', by cases z; exact hg1, hx'.2.1⟩, ?_⟩
  refine method_meetsIn F.slot_dict_items F.entry_dict_items rfl (PySem.evalArgs_none ⟨rfl, raw.typeIs, F.args_dict_items_1 _, _, meets_dict_items_raw d hs, ⟨es, ep, raw⟩, ?_⟩)
  refine wpAny_pyIter_items_raw (d := d) ⟨_, Heap.get?_push_size _ rfl, rfl, rfl⟩ (raw.at fun ob z => Heap.get?_push_of_some _ z) (pi_one (tk := s1.toks) I2 _ (turn_T _ hdt') ⟨.none, .none, ?_⟩ q)
  rw [← sz]
  exact Heap.get?_push_size _ rfl
theorem walk_T {d : Addr} {o : Obj} {kvs : List (List Key × V)} : Walk (ItT d o kvs) kvs.length (fun H => H d = some (.frz o (.dT kvs)))
    (fun i H x H' => ∃ (T q : Addr) (k : List Key) (v : V), kvs[i]? = some (k, v) ∧ H q = some (.tup (k.map kV)) ∧ x = .ref T ∧ H T = none ∧ H' = upd H T (.tup [.ref q, v])) :=
  ⟨fun _ _ hi q => ⟨q, hi⟩, fun _ q => ⟨q, Nat.le_refl _⟩, fun _ _ _ _ _ _ y => y⟩
/-- d.values() -/
def valsO (p d : Addr) : HO := .ext fun h => h.IsValuesView p d
theorem valsO_ok {H : Hp} {h : Heap} {p d : Addr} (e : h.get? p = some { cls := .type "dict_values", data := .fields #[.ref d] }) : ObjOk P w H h p (valsO p d) := by
  refine ⟨⟨_, e, rfl, rfl⟩, ⟨_, e⟩, ?_⟩
  rintro h1 h2 ⟨o, ho, r⟩ k
  exact ⟨o, k o ho, r⟩
def rValsT : V → List V → Hp → VK → Prop := fun x xs H Q => ∃ (a : Addr) (kvs : List (List Key × V)), x = .ref a ∧ xs = [] ∧ H a = some (.dT kvs) ∧ ∀ p, H p = none → Q (.ref p) (upd H p (valsO p a))
theorem mt_valsT : MtR X "dict.values" rValsT := by
  intro pins s σ H x xs v us Q I rx rxs h
  obtain ⟨a, kvs, rfl, rfl, ha, q⟩ := h
  cases rx
  cases rxs
  obtain ⟨hs, es, ep, raw, _⟩ := dt_raw (I.hok a _ ha)
  refine call_meetsIn F.slot_dict_values raw.typeIs F.entry_dict_values (F.args_dict_values_1 _) (meets_dict_values_raw a hs) ⟨⟨es, ep, raw⟩, ?_⟩
  have I2 := I.laid (o := valsO s.heap.objs.size a) (t' := s.toks) (fun b u z => Heap.get?_push_of_some _ z) (Nat.le_refl _) (valsO_ok (H := upd H s.heap.objs.size (valsO s.heap.objs.size a)) (Heap.get?_push_size _ rfl))
  exact ⟨.ref _, _, I2, rfl, q _ (I.hok.fresh (Nat.le_refl _))⟩
theorem best_least {f : Nat → Int} : ∀ n, argBest (fun i j => decide (f i < f j)) n ≤ n ∧ ∀ j, j ≤ n → f (argBest (fun i j => decide (f i < f j)) n) ≤ f j
  | 0 => ⟨Nat.le_refl _, fun j hj => (Nat.le_zero.mp hj).symm ▸ Int.le_refl _⟩
  | n + 1 => by
    obtain ⟨h1, h2⟩ := best_least (f := f) n
    unfold argBest
    by_cases e : f (n + 1) < f (argBest (fun i j => decide (f i < f j)) n)
    · rw [if_pos (by simpa using e)]
      refine ⟨Nat.le_refl _, fun j hj => ?_⟩
      by_cases hj2 : j ≤ n
      · have := h2 j hj2
        omega
      · obtain rfl : j = n + 1 := by omega
        exact Int.le_refl _
    · rw [if_neg (by simpa using e)]
      refine ⟨by omega, fun j hj => ?_⟩
      by_cases hj2 : j ≤ n
      · exact h2 j hj2
      · obtain rfl : j = n + 1 := by omega
        omega
/-- min(d.values()), the values ints -/
def rMinV : List V → Hp → VK → Prop := fun vs H Q => ∃ (p a : Addr) (kvs : List (List Key × V)) (zs : List Int), vs = [.ref p] ∧ H p = some (valsO p a) ∧ H a = some (.dT kvs) ∧ kvs.map (·.2) = zs.map V.int ∧ zs ≠ [] ∧ ∀ z, z ∈ zs → (∀ y ∈ zs, z ≤ y) → Q (.int z) H
theorem call_minV (hc : X.calm = true) : CallR X (.builtin "min") rMinV := by
  intro pins s σ H vs us Q I r h
  obtain ⟨p, a, kvs, zs, rfl, hp, ha, hz, hne, q⟩ := h
  obtain ⟨u, rfl, ru⟩ := vals1 r
  obtain rfl : u = Value.ref p := ru
  obtain ⟨hs, es, ep, raw, sz, ent⟩ := dt_raw (I.hok a _ ha)
  have hv : s.heap.IsValuesView p a := (I.hok p _ hp).1
  have zl : zs.length = es.size := by
    have := congrArg List.length hz
    rw [List.length_map, List.length_map] at this
    omega
  have la : a < s.heap.objs.size := raw.elim fun o z => Heap.lt_size z.1
  refine call_min_walk (wpAny_pyIter_values_raw hv raw ?_)
  have rel : ∀ i v, (∃ hi : i < es.size, v = es[i].val) → ∃ t, v = .int (zs.getD i 0) t := by
    rintro i v ⟨hi, rfl⟩
    obtain ⟨k, v, _, hkv, _, _, rv⟩ := ent i hi
    have e : (kvs.map (·.2))[i]? = some v := by rw [List.getElem?_map, hkv]; rfl
    rw [hz, List.getElem?_map] at e
    cases e2 : zs[i]? with
    | none => rw [e2] at e; cases e
    | some z =>
      rw [e2] at e
      obtain rfl : V.int z = v := Option.some.inj e
      rw [List.getD_eq_getElem?_getD, e2]
      exact rv
  refine ⟨s.heap.objs.size, [s.heap.objs.size, a], [s.heap.objs.size], es.size, _, _, fun i j => decide (zs.getD i 0 < zs.getD j 0), rfl, Walks.rawValues (A := X.A.in1) (I.ok.hd hc) _ a (Nat.ne_of_lt la) es ep, ?_, ?_, ?_, CmpOf.ints_lt (fun i => zs.getD i 0) rel, ?_⟩
  · exact ⟨⟨_, Heap.get?_push_size _ rfl, rfl, rfl⟩, raw.at fun o z => Heap.get?_push_of_some _ z⟩
  · intro b hb
    show b < (s.heap.push _).objs.size
    rw [Heap.size_push]
    simp only [List.mem_cons, List.not_mem_nil, or_false] at hb
    rcases hb with rfl | rfl
    · exact Nat.lt_succ_self _
    · exact Nat.lt_succ_of_lt la
  · have := List.length_pos_iff.mpr hne
    omega
  · intro v h' tk hP hk
    obtain ⟨t, rfl⟩ := rel _ _ hP
    obtain ⟨b1, b2⟩ := best_least (f := fun i => zs.getD i 0) (es.size - 1)
    have pos := List.length_pos_iff.mpr hne
    generalize argBest (fun i j => decide (zs.getD i 0 < zs.getD j 0)) (es.size - 1) = m at b1 b2 hP
    have hm : m < zs.length := by omega
    have em : zs.getD m 0 = zs[m] := by rw [List.getD_eq_getElem?_getD, List.getElem?_eq_getElem hm]; rfl
    refine ⟨.int (zs.getD m 0), H, I.kept fun b o e => hk b o (fun z => ?_) (Heap.get?_push_of_some _ e), ⟨t, rfl⟩, q _ (by rw [em]; exact List.getElem_mem hm) fun y hy => ?_⟩
    · exact absurd (List.mem_singleton.mp z) (Nat.ne_of_lt (Heap.lt_size e))
    · obtain ⟨j, hj, rfl⟩ := List.mem_iff_getElem.mp hy
      have := b2 j (by omega)
      have ej : zs.getD j 0 = zs[j] := by rw [List.getD_eq_getElem?_getD, List.getElem?_eq_getElem hj]; rfl
      rw [ej] at this
      exact this
/-- whether a dict is not empty -/
theorem truth_H {κ : Type} [DecidableEq κ] {knd : HeapKind P w κ} {A : Around} {E : Value → Shared → Prop} {s : Shared} {d : Addr} {xs : List (κ × Addr × Value)} {Q : Bool → Shared → Prop} (hd : (d == sysModules) = false) (hm : s.heap.DictOfH knd d xs)
    (hf : (xs.length : Int) < 2 ^ 63) (h : Q (!xs.isEmpty) { s with toks := s.toks + 1 + 1 }) : wpAny (model P w) A (truthy (.ref d)) Q E s := by
  have e : ((xs.length : Int) != 0) = !xs.isEmpty := by cases xs <;> simp <;> omega
  have run : wpAny (model P w) A (runValue (.builtin "len" ⟨[.ref d], []⟩)) (fun r s' => r = .int xs.length (s.toks + 1) ∧ Q (!xs.isEmpty) s') E s := by
    apply wpAny_runValue
    apply codeAny_builtin entry_len
    rw [Around.under_plainId plain_len _]
    refine wpAny_mono (wpAny_len_body_dictH (Q := fun r s' => r = .int xs.length (s.toks + 1) ∧ Q (!xs.isEmpty) s') hd hm hf ⟨rfl, h⟩) ?_ (fun _ _ z => z)
    rintro fin s' ⟨r, rfl, z⟩
    exact z
  unfold truthy
  first
  | apply wpAny_bind; refine wpAny_callSpecial?_none (name := Str.ofString "__bool__") hm.typeIs noBool_dict ?_
  | apply wpAny_bind; apply wpAny_pure; apply wpAny_bind; refine wpAny_callSpecial?_none (name := Str.ofString "__bool__") hm.typeIs noBool_dict ?_
  first
  | apply wpAny_bind; refine wpAny_specialOf (name := Str.ofString "__len__") hm.typeIs F.slot_dict_len.lookup ?_
  | apply wpAny_bind; apply wpAny_pure; apply wpAny_bind; refine wpAny_specialOf (name := Str.ofString "__len__") hm.typeIs F.slot_dict_len.lookup ?_
  first
  | apply wpAny_bind
    refine wpAny_mono run ?_ (fun _ _ z => z)
    rintro r s' ⟨rfl, z⟩
    exact wpAny_pure (e ▸ z)
  | apply wpAny_bind
    apply wpAny_pure
    apply wpAny_bind
    refine wpAny_mono run ?_ (fun _ _ z => z)
    rintro r s' ⟨rfl, z⟩
    exact wpAny_pure (e ▸ z)
theorem tru_dT : TruR X (fun x H Q => ∃ a kvs, x = .ref a ∧ H a = some (.dT kvs) ∧ Q (!kvs.isEmpty) H) := by
  intro pins s σ H x v Q I rx h
  obtain ⟨a, kvs, rfl, ha, q⟩ := h
  obtain rfl : v = Value.ref a := rx
  obtain ⟨z, hd, ys, rel, dd⟩ := dt_of I.hok ha
  have hl : kvs.length = ys.length := awLen rel
  refine truth_H hd dd (by rw [← hl]; rw [sizeLine_eq] at z; omega) ⟨H, I.tok _, ?_⟩
  have e : (!ys.isEmpty) = !kvs.isEmpty := by cases rel <;> rfl
  rw [e]
  exact q
/-- {t: v}, t a tuple -/
def tDispT (tk tv : TE) : TE := fun σ H Q => ∀ p, H p = none → tk σ (upd H p (.dT [])) fun x H1 => tv σ H1 fun v H2 => ∃ b k, x = .ref b ∧ H2 b = some (.tup (k.map kV)) ∧ H2 p = some (.dT []) ∧ Q (.ref p) (upd H2 p (.dT [(k, v)]))
theorem pe_dispT {ek ev : Expr} {tk tv : TE} {pos : Pos} (hu : X.A.units < cLine) (hk : PE X ek tk) (hv : PE X ev tv) : PE X (.Dict [some ek] [ev] pos) (tDispT tk tv) := by
  constructor
  intro pins s σ H Q I q
  have hn := I.hok.fresh (Nat.le_refl s.heap.objs.size)
  have I1 := I.laid (a := s.heap.objs.size) (o := .dT []) (h' := s.heap.push { cls := .type "dict", data := .dict #[] }) (t' := s.toks) (fun _ _ z => Heap.get?_push_of_some _ z) (Nat.le_refl _) (dt_empty s.heap I.big)
  rw [arm_eval_Dict, zip_pairTrees [some ek] [ev] X.env pos rfl rfl, dictDisplay_pairs (pairTrees [some ek] [ev] X.env pos) (by simp [pairTrees]) (by simp [pairTrees])]
  apply wpAny_bind
  apply wpAny_standAt
  apply wpAny_bind
  refine wpAny_subDictH (knd := tupleKind (mixKind X.prog X.w)) (show X.A.units < cLine from hu) (by show 1 ≤ 15; decide) ?_
  refine thn ((pps_cons (pos := pos) hk hv pps_nil).run pins _ σ _ (fun ps H2 => match ps with | [(x, v)] => ∃ b k, x = .ref b ∧ H2 b = some (.tup (k.map kV)) ∧ H2 s.heap.objs.size = some (.dT []) ∧ Q (.ref s.heap.objs.size) (upd H2 s.heap.objs.size (.dT [(k, v)])) | _ => False) I1 (q _ hn)) ?_
  rintro ws s2 ⟨ps, H2, I2, rel, hq⟩
  match ps, ws, rel, hq with
  | [(x, v)], [(u1, u2)], .cons ⟨r1, r2⟩ .nil, ⟨b, k, e, hb, hp, q2⟩ =>
    subst e
    obtain rfl : u1 = Value.ref b := r1
    obtain ⟨_, hd, ys, r0, dd⟩ := dt_of I2.hok hp
    cases r0
    refine ⟨[(k, b, u2)], ⟨rfl, rfl, key_of I2.hok hb, trivial⟩, dd, fun h' tk dd' hs => ?_⟩
    obtain ⟨o, es, ep, ho, h2, h3, h4, _, h5⟩ := dd'
    have npb : b ≠ s.heap.objs.size := ne_of hb hp (fun z => nomatch z)
    have I3 : Inv X pins σ (upd H2 s.heap.objs.size (.dT [(k, v)])) { s2 with heap := h', toks := tk } :=
      d_write I2 (by rw [hp]; exact True.intro) hs ⟨o, ho⟩ ⟨by show 1 ≤ sizeLine; decide, hd, [(k, b, u2)], .cons ⟨rfl, by rw [upd_ne npb]; exact hb, r2⟩ .nil, o, es, ep, ho, h2, h3, h4, h5⟩
    exact wpAny_pure ⟨.ref s.heap.objs.size, _, I3, rfl, q2⟩
end dts
/-! ### dicts whose keys are nested tuples of ints -/
mutual
inductive NkAt (H : Hp) : NestedKey → V → Prop
  | num (i : Int) : NkAt H (.num i) (.int i)
  | tup {a : Addr} {xs : List V} {ks : List NestedKey} : H a = some (.tup xs) → NkAll H ks xs → NkAt H (.tup ks) (.ref a)
inductive NkAll (H : Hp) : List NestedKey → List V → Prop
  | nil : NkAll H [] []
  | cons {k : NestedKey} {v : V} {ks : List NestedKey} {vs : List V} : NkAt H k v → NkAll H ks vs → NkAll H (k :: ks) (v :: vs)
end
section nds
variable {X : Cx}
mutual
theorem nk_is {pins : List (Addr × Obj)} {σ : L2.St} {H : Hp} {s : Shared} (I : Inv X pins σ H s) : ∀ (k : NestedKey) (v : V) (u : Value), NkAt H k v → RelV v u → NestedIs s.heap k u
  | .none, _, _, h, _ => nomatch h
  | .text _, _, _, h, _ => nomatch h
  | .num i, _, _, h, r => by
    cases h
    obtain ⟨t, rfl⟩ := r
    exact .int _ _
  | .tup ks, _, _, h, r => by
    cases h with
    | tup e hs =>
      cases r
      obtain ⟨_, its, rv, o, ho, hc, n, hd⟩ := I.hok _ _ e
      exact .tup ho hc hd (by simpa using nks_is I ks _ _ hs rv)
theorem nks_is {pins : List (Addr × Obj)} {σ : L2.St} {H : Hp} {s : Shared} (I : Inv X pins σ H s) : ∀ (ks : List NestedKey) (vs : List V) (us : List Value), NkAll H ks vs → Vals vs us → NestedAll s.heap ks us
  | [], _, _, h, r => by
    cases h
    cases r
    exact .nil
  | k :: ks, _, _, h, r => by
    cases h with
    | cons h1 h2 =>
      cases r with
      | cons r1 r2 => exact .cons (nk_is I k _ _ h1 r1) (nks_is I ks _ _ h2 r2)
end
mutual
theorem nk_stay {H H' : Hp} (t : TupsStay H H') : ∀ (k : NestedKey) (v : V), NkAt H k v → NkAt H' k v
  | .none, _, h => nomatch h
  | .text _, _, h => nomatch h
  | .num i, _, h => by
    cases h
    exact .num i
  | .tup ks, _, h => by
    cases h with
    | tup e hs => exact .tup (t _ _ e) (nks_stay t ks _ hs)
theorem nks_stay {H H' : Hp} (t : TupsStay H H') : ∀ (ks : List NestedKey) (vs : List V), NkAll H ks vs → NkAll H' ks vs
  | [], _, h => by
    cases h
    exact .nil
  | k :: ks, _, h => by
    cases h with
    | cons h1 h2 => exact .cons (nk_stay t k _ h1) (nks_stay t ks _ h2)
end
abbrev NE := NestedKey × Addr × V
abbrev NRel : List NE → List (NestedKey × Addr × Value) → Prop := Paired fun p q => p.1 = q.1 ∧ p.2.1 = q.2.1 ∧ RelV p.2.2 q.2.2
def NDO (P : Program) (w : World) (a : Addr) (xs : List NE) : HO := .ext fun h => xs.length ≤ sizeLine ∧ (a == sysModules) = false ∧ ∃ ys, NRel xs ys ∧ ∃ o es ep, h.get? a = some o ∧ o.ExactDict ∧ o.data = .dict es ep ∧ es.toList = ys.map (entryOfKey (nestedKind P w)) ∧ (ys.map (·.1)).Nodup
theorem ndo_ok {P : Program} {w : World} {H : Hp} {h : Heap} {a : Addr} {xs : List NE} {ys : List (NestedKey × Addr × Value)} (hz : xs.length ≤ sizeLine) (hd : (a == sysModules) = false) (r : NRel xs ys) (dd : h.DictOfH (nestedKind P w) a ys) : ObjOk P w H h a (NDO P w a xs) := by
  obtain ⟨o, es, ep, h1, h2, h3, h4, _, h5⟩ := dd
  refine ⟨⟨hz, hd, ys, r, o, es, ep, h1, h2, h3, h4, h5⟩, ⟨o, h1⟩, ?_⟩
  rintro g1 g2 ⟨z1, z2, ys, z3, o, es, ep, z4, z5⟩ k
  exact ⟨z1, z2, ys, z3, o, es, ep, k o z4, z5⟩
structure ND (P : Program) (w : World) (H : Hp) (a : Addr) (xs : List NE) : Prop where
  ob : H a = some (NDO P w a xs)
  ks : ∀ p ∈ xs, NkAt H p.1 (.ref p.2.1) ∧ p.1.depth ≤ 8
theorem ND.full {pins : List (Addr × Obj)} {σ : L2.St} {H : Hp} {s : Shared} {a : Addr} {xs : List NE} (I : Inv X pins σ H s) (h : ND X.prog X.w H a xs) : xs.length ≤ sizeLine ∧ (a == sysModules) = false ∧ ∃ ys, NRel xs ys ∧ s.heap.DictOfH (nestedKind X.prog X.w) a ys := by
  obtain ⟨⟨z1, z2, ys, z3, o, es, ep, z4, z5, z6, z7, z8⟩, _⟩ := I.hok a _ h.ob
  refine ⟨z1, z2, ys, z3, o, es, ep, z4, z5, z6, z7, fun y hy => ?_, z8⟩
  obtain ⟨i, hi⟩ := List.mem_iff_getElem?.mp hy
  obtain ⟨p, hp, e1, e2, _⟩ := awGet2 z3 hi
  obtain ⟨k1, k2⟩ := h.ks p (List.mem_of_getElem? hp)
  rw [e1, e2] at k1
  rw [e1] at k2
  exact ⟨nk_is I _ _ _ k1 rfl, k2⟩
def getN (xs : List NE) (k : NestedKey) : Option V := (xs.find? fun x => decide (x.1 = k)).map (·.2.2)
theorem getN_rel {k : NestedKey} : ∀ {xs : List NE} {ys : List (NestedKey × Addr × Value)}, NRel xs ys → RelO (getN xs k) ((atKey ys k).map (·.2))
  | _, _, .nil => trivial
  | x :: _, y :: _, .cons ⟨e1, _, e3⟩ t => by
    have ih := getN_rel (k := k) t
    unfold getN atKey at *
    rw [List.find?_cons, List.find?_cons, ← e1]
    by_cases h : x.1 = k
    · rw [decide_eq_true h]
      exact e3
    · rw [decide_eq_false h]
      exact ih
theorem getN_none {k : NestedKey} {xs : List NE} : getN xs k = none ↔ ∀ p ∈ xs, p.1 ≠ k := by
  unfold getN
  rw [Option.map_eq_none_iff, List.find?_eq_none]
  simp
theorem getN_some {k : NestedKey} {xs : List NE} {v : V} (h : getN xs k = some v) : ∃ b, (k, b, v) ∈ xs := by
  unfold getN at h
  cases e : xs.find? fun x => decide (x.1 = k) with
  | none => rw [e] at h; cases h
  | some p =>
    rw [e] at h
    have h2 : p.1 = k := of_decide_eq_true (List.find?_some (p := fun x : NE => decide (x.1 = k)) e)
    obtain rfl : p.2.2 = v := Option.some.inj h
    exact ⟨p.2.1, h2 ▸ List.mem_of_find?_eq_some e⟩
theorem getN_snoc {k j : NestedKey} {b : Addr} {v : V} {xs : List NE} (hn : getN xs k = none) : getN (xs ++ [(k, b, v)]) j = if j = k then some v else getN xs j := by
  unfold getN at *
  rw [List.find?_append]
  by_cases h : j = k
  · subst h
    rw [if_pos rfl, Option.map_eq_none_iff.mp hn]
    simp
  · rw [if_neg h]
    have hk : ¬ k = j := fun z => h z.symm
    cases xs.find? fun x => decide (x.1 = j) with
    | none => simp [hk]
    | some p => rfl
theorem nd_stay {P : Program} {w : World} {H H' : Hp} {a : Addr} {xs : List NE} (h : ND P w H a xs) (e : H' a = some (NDO P w a xs)) (t : TupsStay H H') : ND P w H' a xs := ⟨e, fun p hp => ⟨nk_stay t _ _ (h.ks p hp).1, (h.ks p hp).2⟩⟩
theorem nd_same {P : Program} {w : World} {H H' : Hp} {a : Addr} {xs : List NE} (h : ND P w H a xs) (s : Same H H') : ND P w H' a xs := nd_stay h (s _ _ h.ob) (Same.tups s)
/-- {} -/
theorem pe_ndnew {P : Program} {w : World} (hP : X.prog = P) (hw : X.w = w) {pos : Pos} : PE X (.Dict [] [] pos) (fun _ H Q => ∀ p, H p = none → Q (.ref p) (upd H p (NDO P w p []))) := by
  subst hP hw
  constructor
  intro pins s σ H Q I h
  have ok : ObjOk X.prog X.w (upd H s.heap.objs.size (NDO X.prog X.w s.heap.objs.size [])) (s.heap.push { cls := .type "dict", data := .dict #[] }) s.heap.objs.size (NDO X.prog X.w s.heap.objs.size []) :=
    ndo_ok (Nat.zero_le _) (beq_eq_false_iff_ne.mpr (Ne.symm (Nat.ne_of_lt I.big))) .nil (Heap.DictOfH.new s.heap)
  exact wpAny_Dict_empty ⟨.ref _, _, I.laid (t' := s.toks) (fun _ _ z => Heap.get?_push_of_some _ z) (Nat.le_refl _) ok, rfl, h _ (I.hok.fresh (Nat.le_refl _))⟩
theorem nd_nil {P : Program} {w : World} {H : Hp} {a : Addr} : ND P w (upd H a (NDO P w a [])) a [] := ⟨upd_same, (fun _ z => nomatch z)⟩
/-- what is asked of a key -/
def KeyN (H : Hp) (y : V) (k : NestedKey) : Prop := NkAt H k y ∧ k.depth ≤ 8 ∧ ∃ b, y = .ref b
def tNGet (P : Program) (w : World) (td ty : TE) : TE := fun σ H Q => td σ H fun x H1 => ty σ H1 fun y H2 => ∃ a xs k v, x = .ref a ∧ ND P w H2 a xs ∧ KeyN H2 y k ∧ getN xs k = some v ∧ Q v H2
def tNNotIn (P : Program) (w : World) (ty td : TE) : TE := fun σ H Q => ty σ H fun y H1 => td σ H1 fun x H2 => ∃ a xs k, x = .ref a ∧ ND P w H2 a xs ∧ KeyN H2 y k ∧ Q (.bl (!(getN xs k).isSome)) H2
def sNPut (P : Program) (w : World) (td ty tv : TE) : TS := fun D σ H => tv σ H fun v H1 => td σ H1 fun x H2 => ty σ H2 fun y H3 => ∃ a xs k b, x = .ref a ∧ ND P w H3 a xs ∧ y = .ref b ∧ KeyN H3 y k ∧ getN xs k = none ∧ xs.length < sizeLine ∧ D.nx σ (upd H3 a (NDO P w a (xs ++ [(k, b, v)])))
theorem nd_put {P : Program} {w : World} {H : Hp} {a b : Addr} {xs : List NE} {k : NestedKey} {v : V} (h : ND P w H a xs) (hk : KeyN H (.ref b) k) : ND P w (upd H a (NDO P w a (xs ++ [(k, b, v)]))) a (xs ++ [(k, b, v)]) := by
  have t : TupsStay H (upd H a (NDO P w a (xs ++ [(k, b, v)]))) := fun c ys e => by
    rw [upd_ne (ne_of e h.ob (fun z => nomatch z))]
    exact e
  refine ⟨upd_same, fun p hp => ?_⟩
  rcases List.mem_append.mp hp with hp | hp
  · exact ⟨nk_stay t _ _ (h.ks p hp).1, (h.ks p hp).2⟩
  · rw [List.mem_singleton.mp hp]
    exact ⟨nk_stay t _ _ hk.1, hk.2.1⟩
theorem nd_at {pins : List (Addr × Obj)} {σ : L2.St} {H : Hp} {s : Shared} {y : V} {k : NestedKey} {u : Value} (I : Inv X pins σ H s) (hk : KeyN H y k) (r : RelV y u) : ∃ b, u = .ref b ∧ y = .ref b ∧ (nestedKind X.prog X.w).is s.heap k b := by
  obtain ⟨h1, h2, b, rfl⟩ := hk
  obtain rfl : u = Value.ref b := r
  exact ⟨b, rfl, rfl, nk_is I _ _ _ h1 rfl, h2⟩
theorem nrel_none {k : NestedKey} {xs : List NE} {ys : List (NestedKey × Addr × Value)} (r : NRel xs ys) (h : getN xs k = none) : atKey ys k = none := by
  have z := getN_rel (k := k) r
  rw [h] at z
  cases e : atKey ys k with
  | none => rfl
  | some p => rw [e] at z; exact z.elim
theorem pe_ndget {P : Program} {w : World} (hP : X.prog = P) (hw : X.w = w) {o i : Expr} {td ty : TE} {pos : Pos} (hu : X.A.units + 64 < cLine) (ho : PE X o td) (hi : PE X i ty) (hs : NoSl i) : PE X (.Subscript o i pos) (tNGet P w td ty) := by
  subst hP hw
  constructor
  intro pins s σ H Q I h
  refine subD_of PySem.F.slot_dict_getitem.lookup hs (thn (ho.run pins s σ H _ I h) ?_)
  rintro u s1 ⟨x, H1, I1, rx, q1⟩
  refine thn (hi.run pins s1 σ H1 _ I1 q1) ?_
  rintro iv s2 ⟨y, H2, I2, ry, a, xs, k, v, rfl, hn, hk, hv, q2⟩
  obtain rfl : u = Value.ref a := rx
  obtain ⟨b, rfl, rfl, hb⟩ := nd_at I2 hk ry
  obtain ⟨_, hd, ys, r, dd⟩ := hn.full I2
  have z := getN_rel (k := k) r
  rw [hv] at z
  cases e : atKey ys k with
  | none => rw [e] at z; exact z.elim
  | some p =>
    rw [e] at z
    exact ⟨dd.typeIs, wpAny_getItem_heap (knd := nestedKind X.prog X.w) (show X.A.in1.units + 8 < cLine by show X.A.units + 1 + 8 < cLine; omega) hb dd e ⟨v, H2, I2.tok _, z, q2⟩⟩
theorem pc_ndnotin {P : Program} {w : World} (hP : X.prog = P) (hw : X.w = w) {o i : Expr} {td ty : TE} (hu : X.A.units + 64 < cLine) (hi : PE X i ty) (ho : PE X o td) : PC X .NotIn i o (tNNotIn P w ty td) := by
  subst hP hw
  constructor
  intro pins s σ H Q I h
  refine thn (hi.run pins s σ H _ I h) ?_
  rintro iv s1 ⟨y, H1, I1, ry, q1⟩
  refine thn (ho.run pins s1 σ H1 _ I1 q1) ?_
  rintro u s2 ⟨x, H2, I2, rx, a, xs, k, rfl, hn, hk, q2⟩
  obtain rfl : u = Value.ref a := rx
  obtain ⟨b, rfl, rfl, hb⟩ := nd_at I2 hk ry
  obtain ⟨_, hd, ys, r, dd⟩ := hn.full I2
  have z := (getN_rel (k := k) r).isSome_eq
  rw [Option.isSome_map] at z
  refine notIn_keyed (knd := nestedKind X.prog X.w) (show X.A.in1.units + 8 < cLine by show X.A.units + 1 + 8 < cLine; omega) hb hd ⟨ys, dd, rfl⟩ ⟨.bl (!(getN xs k).isSome), H2, I2.tok _, ?_, q2⟩
  rw [valueAt_pairsH, Option.isSome_map, ← z]
  rfl
theorem nd_write {pins : List (Addr × Obj)} {σ : L2.St} {H : Hp} {s : Shared} {a b : Addr} {xs : List NE} {ys : List (NestedKey × Addr × Value)} {k : NestedKey} {v : V} {r : Value} {h' : Heap} {tk : Nat} (I : Inv X pins σ H s) (hn : ND X.prog X.w H a xs) (hl : xs.length < sizeLine) (rel : NRel xs ys) (hd : (a == sysModules) = false)
    (h0 : atKey ys k = none) (rv : RelV v r) (dd : h'.DictOfH (nestedKind X.prog X.w) a (storedH ys k b r)) (hs : Heap.SameBut a s.heap h') : Inv X pins σ (upd H a (NDO X.prog X.w a (xs ++ [(k, b, v)]))) { s with heap := h', toks := tk } := by
  rw [storedH_new h0] at dd
  have he : ∃ o, h'.get? a = some o := dd.elim fun o z => ⟨o, z.choose_spec.choose_spec.1⟩
  refine d_write I (by rw [hn.ob]; exact True.intro) hs he (ndo_ok ?_ hd (awSnoc (F := fun (p : NE) (q : NestedKey × Addr × Value) => p.1 = q.1 ∧ p.2.1 = q.2.1 ∧ RelV p.2.2 q.2.2) ⟨rfl, rfl, rv⟩ rel) dd)
  rw [List.length_append]
  exact hl
theorem ps_ndput {P : Program} {w : World} (hP : X.prog = P) (hw : X.w = w) {o i value : Expr} {td ty tv : TE} {pos pos' : Pos} (hu : X.A.units + 64 < cLine) (ho : PE X o td) (hi : PE X i ty) (hv : PE X value tv) (hs : swapsWith value (some (.Subscript o i pos')) pos.line X.env = pure false) :
    PS X (.Assign [.Subscript o i pos'] value pos) (sNPut P w td ty tv) := by
  subst hP hw
  constructor
  intro pins s σ H D I h
  refine wpAny_Assign_Subscript (thn (hv.run pins s σ H _ I h) ?_) hs
  rintro r s1 ⟨v, H1, I1, rv, q1⟩
  refine thn (ho.run pins s1 σ H1 _ I1 q1) ?_
  rintro u s2 ⟨x, H2, I2, rx, q2⟩
  refine thn (hi.run pins s2 σ H2 _ I2 q2) ?_
  rintro iv s3 ⟨y, H3, I3, ry, a, xs, k, b, rfl, hn, rfl, hk, hg, hl, q3⟩
  obtain rfl : u = Value.ref a := rx
  obtain ⟨b', rfl, eb, hb⟩ := nd_at I3 hk ry
  obtain rfl : b = b' := V.ref.inj eb
  obtain ⟨_, hd, ys, rel, dd⟩ := hn.full I3
  have hz : ys.length ≤ sizeLine := by
    have := awLen rel
    omega
  exact wpAny_setItem_heap (knd := nestedKind X.prog X.w) (hsz := hz) (show X.A.in1.units + 8 < cLine by show X.A.units + 1 + 8 < cLine; omega) hb dd fun h' dd' hs' => ⟨σ, _, nd_write I3 hn hl rel hd (nrel_none rel hg) rv dd' hs', q3⟩
/-- {t: v} -/
def tNDisp (P : Program) (w : World) (tk tv : TE) : TE := fun σ H Q => ∀ p, H p = none → tk σ (upd H p (NDO P w p [])) fun x H1 => tv σ H1 fun v H2 => ∃ b k, x = .ref b ∧ KeyN H2 x k ∧ H2 p = some (NDO P w p []) ∧ Q (.ref p) (upd H2 p (NDO P w p [(k, b, v)]))
theorem pe_ndisp {P : Program} {w : World} (hP : X.prog = P) (hw : X.w = w) {ek ev : Expr} {tk tv : TE} {pos : Pos} (hu : X.A.units + 64 < cLine) (hk : PE X ek tk) (hv : PE X ev tv) : PE X (.Dict [some ek] [ev] pos) (tNDisp P w tk tv) := by
  subst hP hw
  constructor
  intro pins s σ H Q I q
  have hn := I.hok.fresh (Nat.le_refl s.heap.objs.size)
  have ok : ObjOk X.prog X.w (upd H s.heap.objs.size (NDO X.prog X.w s.heap.objs.size [])) (s.heap.push { cls := .type "dict", data := .dict #[] }) s.heap.objs.size (NDO X.prog X.w s.heap.objs.size []) :=
    ndo_ok (Nat.zero_le _) (beq_eq_false_iff_ne.mpr (Ne.symm (Nat.ne_of_lt I.big))) .nil (Heap.DictOfH.new s.heap)
  have I1 := I.laid (t' := s.toks) (fun _ _ z => Heap.get?_push_of_some _ z) (Nat.le_refl _) ok
  rw [arm_eval_Dict, zip_pairTrees [some ek] [ev] X.env pos rfl rfl, dictDisplay_pairs (pairTrees [some ek] [ev] X.env pos) (by simp [pairTrees]) (by simp [pairTrees])]
  apply wpAny_bind
  apply wpAny_standAt
  apply wpAny_bind
  refine wpAny_subDictH (knd := nestedKind X.prog X.w) (show X.A.units + 8 < cLine by omega) (by show 1 ≤ 15; decide) ?_
  refine thn ((pps_cons (pos := pos) hk hv pps_nil).run pins _ σ _ (fun ps H2 => match ps with | [(x, v)] => ∃ b k, x = .ref b ∧ KeyN H2 x k ∧ H2 s.heap.objs.size = some (NDO X.prog X.w s.heap.objs.size []) ∧ Q (.ref s.heap.objs.size) (upd H2 s.heap.objs.size (NDO X.prog X.w s.heap.objs.size [(k, b, v)])) | _ => False) I1 (q _ hn)) ?_
  rintro ws s2 ⟨ps, H2, I2, rel, hq⟩
  cases rel with
  | nil => exact hq.elim
  | cons r t =>
    cases t with
    | cons _ _ => exact hq.elim
    | nil =>
    rename_i p0 w0
    obtain ⟨x, v⟩ := p0
    obtain ⟨u1, u2⟩ := w0
    obtain ⟨r1, r2⟩ := r
    obtain ⟨b, k, e, hk2, hp, q2⟩ := hq
    subst e
    obtain ⟨b', rfl, eb, hb⟩ := nd_at I2 hk2 r1
    obtain rfl : b = b' := V.ref.inj eb
    have hN : ND X.prog X.w H2 s.heap.objs.size [] := ⟨hp, (fun _ z => nomatch z)⟩
    obtain ⟨_, hd, ys, r0, dd⟩ := hN.full I2
    cases r0
    refine ⟨[(k, b, u2)], ⟨rfl, rfl, hb, trivial⟩, dd, fun h' tk dd' hs => ?_⟩
    exact wpAny_pure ⟨.ref s.heap.objs.size, _, nd_write I2 hN (by show 0 < sizeLine; decide) .nil hd rfl r2 dd' hs, rfl, q2⟩
/-- len(d) -/
theorem call_lenN {P : Program} {w : World} (hP : X.prog = P) (hw : X.w = w) : CallR X (.builtin "len") (fun vs H Q => ∃ p xs, vs = [.ref p] ∧ ND P w H p xs ∧ Q (.int ((xs.length : Nat) : Int)) H) := by
  subst hP hw
  intro pins s σ H vs us Q I r h
  obtain ⟨p, xs, rfl, hn, q⟩ := h
  obtain ⟨u, rfl, ru⟩ := vals1 r
  obtain rfl : u = Value.ref p := ru
  obtain ⟨z, hd, ys, rel, dd⟩ := hn.full I
  have hl : xs.length = ys.length := awLen rel
  refine call_len_dictH hd dd (by rw [← hl]; rw [sizeLine_eq] at z; omega) ?_
  rw [← hl]
  exact ⟨.int _, H, I.tok _, ⟨_, rfl⟩, q⟩
/-- d.setdefault(k, v) -/
def rNSetd (P : Program) (w : World) : V → List V → Hp → VK → Prop := fun x vs H Q => ∃ a xs k b v, x = .ref a ∧ vs = [.ref b, v] ∧ ND P w H a xs ∧ KeyN H (.ref b) k ∧ xs.length < sizeLine ∧ (∀ y, getN xs k = some y → Q y H) ∧ (getN xs k = none → Q v (upd H a (NDO P w a (xs ++ [(k, b, v)]))))
theorem mt_nsetd (hu : X.A.units + 64 < cLine) : MtR X "dict.setdefault" (rNSetd X.prog X.w) := by
  intro pins s σ H x vs v us Q I rx rxs h
  obtain ⟨a, xs, k, b, v0, rfl, rfl, hn, hk, hl, q1, q2⟩ := h
  cases rx
  obtain ⟨u1, u2, rfl, r1, r2⟩ := vals2 rxs
  obtain ⟨b', rfl, eb, hb⟩ := nd_at I hk r1
  obtain rfl : b = b' := V.ref.inj eb
  obtain ⟨_, hd, ys, rel, dd⟩ := hn.full I
  have hz : ys.length ≤ sizeLine := by
    have := awLen rel
    omega
  have z := getN_rel (k := k) rel
  refine call_setdefault_heap (knd := nestedKind X.prog X.w) (hsz := hz) (show X.A.in1.units + 8 < cLine by show X.A.units + 1 + 8 < cLine; omega) hb hd dd (fun p hp => ?_) (fun h0 h' dd' hs => ?_)
  · rw [hp] at z
    cases e : getN xs k with
    | none => rw [e] at z; exact z.elim
    | some y =>
      rw [e] at z
      exact ⟨y, H, I.tok _, z, q1 y e⟩
  · rw [h0] at z
    cases e : getN xs k with
    | some y => rw [e] at z; exact z.elim
    | none => exact ⟨v0, _, nd_write I hn hl rel hd h0 r2 dd' hs, r2, q2 e⟩
def tNSetd (P : Program) (w : World) (to : TE) (t : TA) : TE := fun σ H Q => to σ H fun x H1 => (∃ a xs, x = V.ref a ∧ ND P w H1 a xs) ∧ t σ H1 fun vs H2 => rNSetd P w x vs H2 Q
theorem pe_nsetd {P : Program} {w : World} (hP : X.prog = P) (hw : X.w = w) {o e : Expr} {es : List Expr} {to : TE} {t : TA} {apos cpos : Pos} (hu : X.A.units + 64 < cLine) (ho : PE X o to) (ha : PA X (e :: es) t)
    (c1 : attributeBase o "setdefault" X.env (eval o X.env) = eval o X.env := by rfl)
    (c2 : ((backTo cpos (starEach (e :: es) X.env)).all (fun x => !x.1) && (backToKw cpos (keywordEach [] X.env)).all (fun x => x.1.isSome) && decide ((e :: es).length + ([] : List Keyword).length + (if ([] : List Keyword).isEmpty then 0 else 1) < 30)) = true := by rfl)
    (c3 : (apos.endLine == cpos.line) = true := by rfl) (c4 : starEach (e :: es) X.env = (false, eval e X.env) :: starEach es X.env := by rfl) (c5 : (backTo cpos (starEach es X.env)).any (·.1) = false := by rfl) :
    PE X (.Call (.Attribute o "setdefault" apos) (e :: es) [] cpos) (tNSetd P w to t) := by
  subst hP hw
  constructor
  intro pins s σ H Q I h
  refine wpAny_Call_method_late c1 c2 c3 rfl (thn (ho.run pins s σ H _ I h) ?_)
  rintro v s1 ⟨x, H1, I1, r1, ⟨a, xs, rfl, hn⟩, q1⟩
  cases r1
  obtain ⟨_, hd, ys, rel, dd⟩ := hn.full I1
  obtain ⟨ob, es', ep, g1, g2, _⟩ := id dd
  refine ⟨"dict", "dict.setdefault", F.plainAttrs_dict, F.slot_dict_setdefault, F.type_dict_setdefault, dd.typeIs, (fun z e => ⟨ob, by injection e with e; rw [← e]; exact g1, g2.2.1⟩), ?_⟩
  have hA := ha.run cpos pins s1 σ H1 _ I1 q1
  rw [c4] at hA ⊢
  refine Calls.callWith_builtin (by show (false || (backTo cpos (starEach es X.env)).any (·.1)) = false; rw [c5]; rfl) (Calls.evalArgs_plain ?_)
  exact thn hA fun us s2 ⟨vs, H2, I2, r2, q2⟩ => mt_nsetd hu pins s2 σ H2 (.ref a) vs (.ref a) us Q I2 rfl r2 q2
end nds
/-! ### tape, digit -/
def spTape (K : PySem.W.Frag) : Sp := fun vs H Q _ => ∃ (S : Addr) (ns : List Int) (st : Int), vs = [.ref S, .int st] ∧ SqL K H S (ns.map V.int) ∧ 0 ≤ st ∧ st ≤ 1000 ∧ ∀ H' p, Same H H' → H p = none → TP H' p → Q (.ref p) H'
theorem ok_tape {f : Addr} {fd : FuncData} {k : Nat} (F : Fun K "_law_tape" "_law_tape" s_law_tape f fd) (ma : mg "abs" = none) (mn : mg "len" = none) : FnOk P w K mg base CX0 (k + 1) f fd ["script", "start"] (spTape K) := by
  refine F.ok sc_law_tape (fun vs H Q E h => ?_) (fun cdv A outer s H vs Q E hr h => ?_)
  · obtain ⟨S, ns, st, rfl, _⟩ := h
    rfl
  · obtain ⟨S, ns, st, rfl, hS, h0, h1, q⟩ := h
    refine ⟨_, pss_cons (ps_set (i := 2) sc_law_tape.nd rfl (.inl rfl) pe_int)
      (pss_mid (ps_if (pt_cmpR op_lt (pv 1) (pe_callB call_len_seq (by rfl) mn PySem.boot_len (pa_cons (pv 0) pa_nil)) (nomark _))
        (pss_one (ps_set (i := 2) sc_law_tape.nd rfl (.inl rfl) (pe_callB call_abs (by rfl) ma (by decide +kernel) (pa_cons (pe_ix ix_list (pv 0) (pv 1) (fun _ _ => rfl)) pa_nil))))
        (pss_one (ps_if (pt_cmpR op_gt (pe_callB call_len_seq (by rfl) mn PySem.boot_len (pa_cons (pv 0) pa_nil)) pe_int (nomark _))
          (pss_one (ps_set (i := 2) sc_law_tape.nd rfl (.inl rfl) (pe_op op_add (pe_op op_mod (pe_callB call_abs (by rfl) ma (by decide +kernel) (pa_cons (pe_ix ix_list (pv 0) (pe_op op_mod (pv 1) (pe_callB call_len_seq (by rfl) mn PySem.boot_len (pa_cons (pv 0) pa_nil))) (fun _ _ => rfl)) pa_nil)) (pe_op op_pow pe_int pe_int)) (pe_op op_mul (pv 1) pe_int)))) pss_nil)))
      (pss_one (ps_ret (pe_lst (pa_cons (pv 2) (pa_cons (pe_op op_add (pe_op op_mod (pe_op op_add (pe_op op_mul (pv 1) pe_int) (pv 2)) pe_int) pe_int) pa_nil)))))), ?_⟩
    refine ⟨fun σ2 H2 => ∃ c : Int, σ2 = [some (.ref S), some (.int st), some (.int c)] ∧ H2 = H, ?_, ?_⟩
    · refine ⟨.int st, rfl, .ref S, rfl, S, _, rfl, .inl hS, st, _, rfl, rfl, _, rfl, ite2 (fun e => ?_) (fun e => ?_)⟩
      · have hl := of_decide_eq_true e
        rw [List.length_map] at hl
        refine ⟨.ref S, rfl, .int st, rfl, S, _, st, _, rfl, rfl, hS, atI_ints h0 hl, _, rfl, ?_⟩
        exact ⟨_, rfl, rfl⟩
      · refine ⟨.ref S, rfl, S, _, rfl, .inl hS, _, 0, rfl, rfl, _, rfl, ite2 (fun e2 => ?_) (fun e2 => ?_)⟩
        · have hpos := of_decide_eq_true e2
          have hp2 : (0 : Int) < ns.length := by
            rw [List.length_map] at hpos
            exact hpos
          refine ⟨.ref S, rfl, .int st, rfl, .ref S, rfl, S, _, rfl, .inl hS, st, _, rfl, rfl, hpos, S, _, _, _, rfl, rfl, hS, atI_ints (Int.emod_nonneg _ (by omega)) (by rw [List.length_map]; exact Int.emod_lt_of_pos _ hp2), _, rfl, ?_⟩
          refine ⟨10, 9, rfl, rfl, ⟨by decide, by decide, by decide⟩, _, _, rfl, rfl, (by show (0 : Int) < 10 ^ 9; decide), .int st, rfl, st, 1000003, rfl, rfl, .inr ⟨by decide, by decide⟩, _, _, rfl, rfl, _, rfl, rfl⟩
        · exact ⟨_, rfl, rfl⟩
    · rintro σ2 H2 ⟨c, rfl, rfl⟩
      refine ⟨.int c, rfl, .int st, rfl, st, 7919, rfl, rfl, .inr ⟨by decide, by decide⟩, .int c, rfl, _, c, rfl, rfl, _, 998244353, rfl, rfl, (by show (0 : Int) < 998244353; decide), _, 1, rfl, rfl, by show 2 ≤ sizeLine; decide, fun p hp => ?_⟩
      exact q _ p (same_new hp) hp ⟨_, _, upd_same⟩
def spDigit : Sp := fun vs H Q _ => ∃ (a : Addr) (m : Int), vs = [.ref a, .int m] ∧ 0 < m ∧ m ≤ 2 ^ 80 ∧ TP H a ∧ ∀ H' z, 0 ≤ z → z < m → TP H' a → But a H H' → Q (.int z) H'
theorem ok_digit {f : Addr} {fd : FuncData} {k : Nat} (F : Fun K "_law_digit" "_law_digit" s_law_digit f fd) : FnOk P w K mg base CX0 (k + 1) f fd ["tape", "many"] spDigit := by
  refine F.ok sc_law_digit (fun vs H Q E h => ?_) (fun cdv A outer s H vs Q E hr h => ?_)
  · obtain ⟨a, m, rfl, _⟩ := h
    rfl
  · obtain ⟨a, m, rfl, hm, hm2, ⟨x, y, ea⟩, q⟩ := h
    refine ⟨_, pss_cons (ps_if (pt_cmpR op_gt (pe_ix ix_list (pv 0) pe_int (fun _ _ => rfl)) pe_int (nomark _))
        (pss_cons (ps_set (i := 2) sc_law_digit.nd rfl (.inl rfl) (pe_op op_mod (pe_ix ix_list (pv 0) pe_int (fun _ _ => rfl)) (pv 1)))
        (pss_cons (ps_asg (pe_op op_fdivW (pe_ix ix_list (pv 0) pe_int (fun _ _ => rfl)) (pv 1)) (pg_sub (pv 0) pe_int set_list))
        (pss_one (ps_ret (pv 2))))) pss_nil)
      (pss_cons (ps_asg (pe_op op_mod (pe_op op_add (pe_op op_mul (pe_ix ix_list (pv 0) pe_int (fun _ _ => rfl)) pe_int) pe_int) pe_int) (pg_sub (pv 0) pe_int set_list))
      (pss_cons (ps_set (i := 3) sc_law_digit.nd rfl (.inl rfl) (pe_op op_mod (pe_op op_mul (pe_ix ix_list (pv 0) pe_int (fun _ _ => rfl)) pe_int) pe_int))
      (pss_one (ps_ret (pe_op op_mod (pe_op op_add (pe_op op_mul (pe_op op_mod (pe_op op_mul (pe_ix ix_list (pv 0) pe_int (fun _ _ => rfl)) (pe_ix ix_list (pv 0) pe_int (fun _ _ => rfl))) pe_int) pe_int) (pv 3)) (pv 1)))))), ?_⟩
    have lA : SqL K H a [.int x, .int y] := .inl (.inl ea)
    have put : ∀ o, But a H (upd H a o) := fun o => But.put
    refine ⟨.ref a, rfl, a, _, 0, .int x, rfl, rfl, lA, rfl, x, 0, rfl, rfl, _, rfl, ite2 (fun e => ?_) (fun e => ?_)⟩
    · refine ⟨.ref a, rfl, a, _, 0, .int x, rfl, rfl, lA, rfl, .int m, rfl, x, m, rfl, rfl, hm, ?_⟩
      refine ⟨.ref a, rfl, a, _, 0, .int x, rfl, rfl, lA, rfl, .int m, rfl, x, m, rfl, rfl, wide_div (b := 81) hm (by omega) (by decide) (by decide), ?_⟩
      refine ⟨.ref a, rfl, a, _, 0, 0, rfl, rfl, ea, rfl, .int (x % m), rfl, ?_⟩
      exact q _ _ (Int.emod_nonneg _ (by omega)) (Int.emod_lt_of_pos _ hm) ⟨x / m, y, upd_same⟩ (put _)
    · refine ⟨.ref a, rfl, a, _, 1, .int y, rfl, rfl, lA, rfl, y, 48271, rfl, rfl, .inr ⟨by decide, by decide⟩, _, 11, rfl, rfl, _, 2147483647, rfl, rfl, (by show (0 : Int) < 2147483647; decide), ?_⟩
      have l0 := Int.emod_nonneg (y * 48271 + 11) (show (2147483647 : Int) ≠ 0 by decide)
      have l1 := Int.emod_lt_of_pos (y * 48271 + 11) (show (0 : Int) < 2147483647 by decide)
      obtain ⟨z, hz⟩ : ∃ z : Int, (y * 48271 + 11) % 2147483647 = z := ⟨_, rfl⟩
      rw [hz] at l0 l1
      refine ⟨.ref a, rfl, a, _, 1, 1, rfl, rfl, ea, rfl, ?_⟩
      refine ⟨.ref a, rfl, a, _, 1, .int z, rfl, rfl, .inl (.inl upd_same), (by rw [← hz]; rfl), z, 40692, rfl, rfl, .inr ⟨by decide, by decide⟩, _, 2147483399, rfl, rfl, (by show (0 : Int) < 2147483399; decide), ?_⟩
      refine ⟨.ref a, rfl, a, _, 1, .int z, rfl, rfl, .inl (.inl upd_same), (by rw [← hz]; rfl), .ref a, rfl, a, _, 1, .int z, rfl, rfl, .inl (.inl upd_same), (by rw [← hz]; rfl), z, z, rfl, rfl, .inr ⟨by omega, by omega⟩, _, 2147483629, rfl, rfl, (by show (0 : Int) < 2147483629; decide), _, 2147483399, rfl, rfl, .inr ⟨by decide, by decide⟩, _, rfl, _, _, rfl, rfl, .int m, rfl, _, m, rfl, rfl, hm, ?_⟩
      exact q _ _ (Int.emod_nonneg _ (by omega)) (Int.emod_lt_of_pos _ hm) ⟨x, z, by rw [← hz]; exact upd_same⟩ (put _)
/-! ### deeds that carry -/
theorem four_calm : ∀ x ∈ (["and", "or", "xor", "not"] : List Str), x ∉ twC := by decide +kernel
def carN : List Deed → Nat
  | [] => 0
  | d :: ds => carN ds + if d.1 ∈ twC then 1 else 0
theorem carN_snoc (d : Deed) : ∀ ds : List Deed, carN (ds ++ [d]) = carN ds + if d.1 ∈ twC then 1 else 0
  | [] => by simp [carN]
  | e :: ds => by
    show carN (ds ++ [d]) + _ = carN ds + _ + _
    rw [carN_snoc d ds]
    omega
theorem carN_le : ∀ ds : List Deed, carN ds ≤ ds.length
  | [] => Nat.le_refl _
  | d :: ds => by
    show carN ds + _ ≤ ds.length + 1
    have := carN_le ds
    split <;> omega
/-! ### a deed off the tape -/
def spTd : Sp := fun vs H Q _ => ∃ (a : Addr) (m lf : Int), vs = [.ref a, .int m, .int lf] ∧ 0 < m ∧ m ≤ 100 ∧ TP H a ∧ ∀ H' r d, DeedOk m d → (lf = 0 → d.1 ∉ twC) → H' r = some (.tup (dV d)) → TP H' a → But a H H' → Q (.ref r) H'
theorem ok_td {f fD : Addr} {fd fdD : FuncData} {k : Nat} (F : Fun K "_law_deed" "_law_deed" s_law_deed f fd) (GD : FnOk P w K mg base CX0 (k + 1) fD fdD ["tape", "many"] spDigit) (kD : PySem.W.keepIn K (.ref fD) = true) (bD : Binds K fdD ["tape", "many"] []) (gD : mg "_law_digit" = some (.ref fD)) :
    FnOk P w K mg base CX0 (k + 2) f fd ["tape", "ahead", "left"] spTd := by
  refine F.ok sc_law_deed (fun vs H Q E h => ?_) (fun cdv A outer s H vs Q E hr h => ?_)
  · obtain ⟨a, m, lf, rfl, _⟩ := h
    rfl
  · obtain ⟨a, m, lf, rfl, hm, hm2, ht, q⟩ := h
    refine ⟨_, pss_cons (ps_set (i := 3) sc_law_deed.nd rfl (.inl rfl) (pe_lst (pa_cons pe_str (pa_cons pe_str (pa_cons pe_str (pa_cons pe_str (pa_cons pe_str (pa_cons pe_str (pa_cons pe_str (pa_cons pe_str (pa_cons pe_str (pa_cons pe_str (pa_cons pe_str (pa_cons pe_str pa_nil))))))))))))))
      (pss_cons (ps_set (i := 4) sc_law_deed.nd rfl (.inl rfl) (pe_ix ix_list (pv 3) (pe_call GD hr (by rfl) gD kD bD .nil pass0 (pa_cons (pv 0) (pa_cons pe_int pa_nil))) (fun _ _ => rfl)))
      (pss_mid (ps_if (PW.pt (pw_and (pt_cmpR op_eq (pv 2) pe_int (nomark _)) (pw_and1 (pt_cmpR op_in_seq (pv 4) (pe_tup (pa_cons pe_str (pa_cons pe_str (pa_cons pe_str (pa_cons pe_str (pa_cons pe_str pa_nil)))))) (by rfl)))))
        (pss_one (ps_set (i := 4) sc_law_deed.nd rfl (.inl rfl) (pe_ix ix_list (pe_lst (pa_cons pe_str (pa_cons pe_str (pa_cons pe_str (pa_cons pe_str pa_nil))))) (pe_call GD hr (by rfl) gD kD bD .nil pass0 (pa_cons (pv 0) (pa_cons pe_int pa_nil))) (fun _ _ => rfl)))) pss_nil)
      (pss_cons (ps_set (i := 5) sc_law_deed.nd rfl (.inl rfl) (pe_lst (pa_cons (pe_call GD hr (by rfl) gD kD bD .nil pass0 (pa_cons (pv 0) (pa_cons (pv 1) pa_nil))) (pa_cons (pe_call GD hr (by rfl) gD kD bD .nil pass0 (pa_cons (pv 0) (pa_cons (pv 1) pa_nil))) pa_nil))))
      (pss_mid (ps_if (pt_cmpR op_eq (pe_call GD hr (by rfl) gD kD bD .nil pass0 (pa_cons (pv 0) (pa_cons pe_int pa_nil))) pe_int (nomark _)) (pss_one (ps_asg (pe_op op_sub (pv 1) pe_int) (pg_sub (pv 5) (pe_call GD hr (by rfl) gD kD bD .nil pass0 (pa_cons (pv 0) (pa_cons pe_int pa_nil))) set_list))) pss_nil)
      (pss_cons (ps_if (pt_cmpR op_in_seq (pv 4) (pe_tup (pa_cons pe_str (pa_cons pe_str (pa_cons pe_str pa_nil)))) (by rfl)) (pss_one (ps_ret (pe_tup (pa_cons (pv 4) pa_nil)))) pss_nil)
      (pss_cons (ps_if (pt_cmpR op_in_seq (pv 4) (pe_tup (pa_cons pe_str (pa_cons pe_str (pa_cons pe_str pa_nil)))) (by rfl)) (pss_one (ps_ret (pe_tup (pa_cons (pv 4) (pa_cons (pe_ix ix_list (pv 5) pe_int (fun _ _ => rfl)) pa_nil))))) pss_nil)
      (pss_one (ps_ret (pe_tup (pa_cons (pv 4) (pa_cons (pe_ix ix_list (pv 5) pe_int (fun _ _ => rfl)) (pa_cons (pe_ix ix_list (pv 5) pe_int (fun _ _ => rfl)) pa_nil)))))))))))), ?_⟩
    refine ⟨by show 12 ≤ sizeLine; decide, fun S hS => ?_⟩
    have nS := ht.ne_new hS
    refine ⟨.ref S, rfl, .ref a, rfl, a, 12, rfl, by decide, by decide, ht.upd nS, fun H1 z z0 z1 t1 b1 => ?_⟩
    have eS1 : H1 S = some (.lst (tw12.map V.str)) := b1 _ _ nS upd_same
    obtain ⟨v, hv, hvm⟩ := atI_in (l := tw12.map V.str) z0 (by show z < 12; exact z1)
    obtain ⟨x, hx, rfl⟩ := mem_strs hvm
    have kp1 : But a H H1 := (But.same (same_new hS)).trans b1
    refine ⟨S, _, z, .str x, rfl, rfl, .inl (.inl eS1), hv, ?_⟩
    refine ⟨fun σ2 H2 => ∃ x, σ2 = [some (.ref a), some (.int m), some (.int lf), some (.ref S), some (.str x), none] ∧ x ∈ tw12 ∧ (lf = 0 → x ∉ twC) ∧ TP H2 a ∧ But a H H2, ?_, ?_⟩
    · refine ⟨.int lf, rfl, rfl, _, rfl, ite2 (fun e => ?_) (fun e => ?_)⟩
      · refine ⟨.str x, rfl, by show 5 ≤ sizeLine; decide, fun T hT => ?_⟩
        have nT := t1.ne_new hT
        refine ⟨T, _, rfl, .inr (SqT.of upd_same), rfl, rfl, _, rfl, ite2 (fun e2 => ?_) (fun e2 => ?_)⟩
        · refine ⟨by show 4 ≤ sizeLine; decide, fun M hM => ?_⟩
          have t2 := t1.upd (o := .tup (twC.map V.str)) nT
          have nM := t2.ne_new hM
          refine ⟨.ref a, rfl, a, 4, rfl, by decide, by decide, t2.upd nM, fun H3 y y0 y1 t3 b3 => ?_⟩
          obtain ⟨v2, hv2, hvm2⟩ := atI_in (l := (["and", "or", "xor", "not"] : List Str).map V.str) y0 (by show y < 4; exact y1)
          obtain ⟨x2, hx2, rfl⟩ := mem_strs hvm2
          refine ⟨M, _, y, .str x2, rfl, rfl, .inl (.inl (b3 _ _ nM upd_same)), hv2, x2, rfl, tw_four x2 hx2, fun _ => four_calm x2 hx2, t3, ?_⟩
          exact ((kp1.trans (But.same (same_new hT))).trans (But.same (same_new hM))).trans b3
        · exact ⟨x, rfl, hx, fun _ z => e2 ((inS x twC).trans (decide_eq_true z)), t1.upd nT, kp1.trans (But.same (same_new hT))⟩
      · exact ⟨x, rfl, hx, fun z => absurd (decide_eq_true (congrArg V.int z)) e, t1, kp1⟩
    · rintro σ2 H2 ⟨x, rfl, hx, hcalm, t2, b2⟩
      refine ⟨.ref a, rfl, .int m, rfl, a, m, rfl, hm, by omega, t2, fun H3 i i0 i1 t3 b3 => ?_⟩
      refine ⟨.ref a, rfl, .int m, rfl, a, m, rfl, hm, by omega, t3, fun H4 j j0 j1 t4 b4 => ?_⟩
      refine ⟨by show 2 ≤ sizeLine; decide, fun M hM => ?_⟩
      have nM := t4.ne_new hM
      have bH : But a H H4 := (b2.trans b3).trans b4
      refine ⟨fun σ5 H5 => ∃ i j : Int, σ5 = [some (.ref a), some (.int m), some (.int lf), some (.ref S), some (.str x), some (.ref M)] ∧ 0 ≤ i ∧ i < m ∧ 0 ≤ j ∧ j < m ∧ H5 M = some (.lst [.int i, .int j]) ∧ TP H5 a ∧ But a H H5, ?_, ?_⟩
      · have bM : But a H (upd H4 M (.lst [.int i, .int j])) := bH.trans (But.same (same_new hM))
        refine ⟨.ref a, rfl, a, 3, rfl, by decide, by decide, t4.upd nM, fun H5 y y0 y1 t5 b5 => ?_⟩
        have eM5 := b5 _ _ nM upd_same
        refine ⟨rfl, _, rfl, ite2 (fun e => ?_) (fun e => ?_)⟩
        · refine ⟨.int m, rfl, m, 1, rfl, rfl, .ref M, rfl, .ref a, rfl, a, 2, rfl, by decide, by decide, t5, fun H6 u u0 u1 t6 b6 => ?_⟩
          have eM6 := b6 _ _ nM eM5
          have old : ∀ o, But a H (upd H6 M o) := fun o b v nb e => by
            have e1 := bH b v nb e
            rw [upd_ne (ne_of_none e1 hM)]
            exact b6 b v nb (b5 b v nb (by rw [upd_ne (ne_of_none e1 hM)]; exact e1))
          have hu : u = 0 ∨ u = 1 := by omega
          rcases hu with rfl | rfl
          · exact ⟨M, _, 0, 0, rfl, rfl, eM6, rfl, m - 1, j, rfl, by omega, by omega, j0, j1, upd_same, t6.upd nM, old _⟩
          · exact ⟨M, _, 1, 1, rfl, rfl, eM6, rfl, i, m - 1, rfl, i0, i1, by omega, by omega, upd_same, t6.upd nM, old _⟩
        · exact ⟨i, j, rfl, i0, i1, j0, j1, eM5, t5, bM.trans b5⟩
      · rintro σ5 H5 ⟨i, j, rfl, i0, i1, j0, j1, eM, t5, b5⟩
        refine ⟨.str x, rfl, by show 3 ≤ sizeLine; decide, fun T hT => ?_⟩
        have nT := t5.ne_new hT
        have sT := same_new (o := .tup [.str "all", .str "one", .str "none"]) hT
        refine ⟨T, _, rfl, .inr (SqT.of upd_same), rfl, rfl, _, rfl, ite2 (fun e => ?_) (fun e => ?_)⟩
        · have hx0 : x ∈ (["all", "one", "none"] : List Str) := of_decide_eq_true ((inS x ["all", "one", "none"]).symm.trans e)
          refine ⟨.str x, rfl, by show 1 ≤ sizeLine; decide, fun r hr => ?_⟩
          have nr := (t5.upd nT).ne_new hr
          exact q _ r (x, []) ⟨tw_zero x hx0, (fun _ z => nomatch z)⟩ hcalm upd_same ((t5.upd nT).upd nr) ((b5.trans (But.same sT)).trans (But.same (same_new hr)))
        · have hx0 : ¬ x ∈ (["all", "one", "none"] : List Str) := fun z => e ((inS x ["all", "one", "none"]).trans (decide_eq_true z))
          refine ⟨.str x, rfl, by show 3 ≤ sizeLine; decide, fun U hU => ?_⟩
          have nU := (t5.upd nT).ne_new hU
          have sU := same_new (o := .tup [.str "not", .str "twice", .str "neg"]) hU
          have t6 := (t5.upd (o := .tup [.str "all", .str "one", .str "none"]) nT).upd (o := .tup [.str "not", .str "twice", .str "neg"]) nU
          have eM6 := sU _ _ (sT _ _ eM)
          refine ⟨U, _, rfl, .inr (SqT.of upd_same), rfl, rfl, _, rfl, ite2 (fun e2 => ?_) (fun e2 => ?_)⟩
          · have hx1 : x ∈ (["not", "twice", "neg"] : List Str) := of_decide_eq_true ((inS x ["not", "twice", "neg"]).symm.trans e2)
            refine ⟨.str x, rfl, .ref M, rfl, M, _, 0, .int i, rfl, rfl, .inl (.inl eM6), rfl, by show 2 ≤ sizeLine; decide, fun r hr => ?_⟩
            have nr := t6.ne_new hr
            refine q _ r (x, [i]) ⟨tw_one x hx1, fun z hz => ?_⟩ hcalm upd_same (t6.upd nr) (((b5.trans (But.same sT)).trans (But.same sU)).trans (But.same (same_new hr)))
            rw [List.mem_singleton.mp hz]
            exact ⟨i0, i1⟩
          · have hx1 : ¬ x ∈ (["not", "twice", "neg"] : List Str) := fun z => e2 ((inS x ["not", "twice", "neg"]).trans (decide_eq_true z))
            have hx2 : (x, (2 : Int)) ∈ fwL := ((tw_two x hx).resolve_left hx0).resolve_left hx1
            refine ⟨.str x, rfl, .ref M, rfl, M, _, 0, .int i, rfl, rfl, .inl (.inl eM6), rfl, .ref M, rfl, M, _, 1, .int j, rfl, rfl, .inl (.inl eM6), rfl, by show 3 ≤ sizeLine; decide, fun r hr => ?_⟩
            have nr := t6.ne_new hr
            refine q _ r (x, [i, j]) ⟨hx2, fun z hz => ?_⟩ hcalm upd_same (t6.upd nr) (((b5.trans (But.same sT)).trans (But.same sU)).trans (But.same (same_new hr)))
            simp only [List.mem_cons, List.not_mem_nil, or_false] at hz
            rcases hz with rfl | rfl
            · exact ⟨i0, i1⟩
            · exact ⟨j0, j1⟩
/-! ### how many carry -/
def spCr (K : PySem.W.Frag) : Sp := fun vs H Q _ => ∃ (L : Addr) (rs : List Addr) (ds : List Deed), vs = [.ref L] ∧ SqL K H L (rs.map V.ref) ∧ DsAt H rs ds ∧ ds.length ≤ 100 ∧ ∀ H', Same H H' → Q (.int (carN ds : Nat)) H'
theorem ok_cr {f : Addr} {fd : FuncData} {k : Nat} (F : Fun K "_law_carrying" "_law_carrying" s_law_carrying f fd) (mn : mg "len" = none) : FnOk P w K mg base CX0 (k + 1) f fd ["deeds"] (spCr K) := by
  refine F.ok sc_law_carrying (fun vs H Q E h => ?_) (fun cdv A outer s H vs Q E hr h => ?_)
  · obtain ⟨L, rs, ds, rfl, _⟩ := h
    rfl
  · obtain ⟨L, rs, ds, rfl, eL, hd, hl, q⟩ := h
    refine ⟨_, pss_one (ps_ret (pe_callB call_len_seq (by rfl) mn PySem.boot_len (pa_cons
      (pe_lc (own := [("deed", 1)]) (g := gName 1) (by rfl) sc_law_carrying.nd (pi_list (pv 0)) (blkOk_by (own := [("deed", 1)]) (N := N_law_carrying) (sc := defScope s_law_carrying) (by decide +kernel))
        (fun _ _ _ _ _ => pg_name (i := 1) sc_law_carrying.nd rfl (Or.inl rfl)) (fun _ _ _ _ _ => pts_one (pt_cmpR (r := rIn K false) op_in_seq (pe_ix (r := rIxT K) ix_tup (pv 1) pe_int (fun _ _ => rfl)) (pe_tup (pa_cons pe_str (pa_cons pe_str (pa_cons pe_str (pa_cons pe_str (pa_cons pe_str pa_nil)))))) (by rfl)))
        (fun _ _ _ _ _ => pv 1)) pa_nil))), ?_⟩
    refine ⟨.ref L, rfl, L, rfl, ⟨_, eL⟩, fun C hC => ?_⟩
    refine lc_list (K := K) (a := L) (xs := rs.map V.ref) (fun i H4 => ∃ ys : List V, ys.length = carN (ds.take i) ∧ H4 C = some (.lst ys) ∧ Same H H4) ⟨[], rfl, upd_same, same_new hC⟩ (fun i H4 _ hp => ?_) (fun i x H4 hx hp => ?_) (fun H4 hp => ?_)
    · obtain ⟨_, _, _, sm⟩ := hp
      exact sm.seq eL
    · obtain ⟨ys, hy, eC, sm⟩ := hp
      have hi : i < rs.length := by
        have := (List.getElem?_eq_some_iff.mp hx).1
        rwa [List.length_map] at this
      have hx' : x = .ref rs[i] := by
        rw [List.getElem?_map, List.getElem?_eq_getElem hi] at hx
        exact (Option.some.inj hx).symm
      subst hx'
      obtain ⟨d, hd1, hd2⟩ := awGet hd (List.getElem?_eq_getElem hi)
      have old : ∀ H6, Same H H6 → ∀ o, Same H (upd H6 C o) := fun H6 s6 o b u e => by
        rw [upd_ne (ne_of_none e hC)]
        exact s6 b u e
      refine ⟨rfl, .ref rs[i], rfl, rs[i], _, 0, .str d.1, rfl, rfl, SqT.of (sm _ _ hd2), dv0 d, by show 5 ≤ sizeLine; decide, fun T hT => ?_⟩
      have sT := sm.trans (same_new (o := .tup [.str "add", .str "sub", .str "twice", .str "neg", .str "one"]) hT)
      have eCT : upd H4 T (.tup [.str "add", .str "sub", .str "twice", .str "neg", .str "one"]) C = some (.lst ys) := same_new hT _ _ eC
      refine ⟨T, _, rfl, .inr (SqT.of upd_same), rfl, rfl, _, rfl, ite2 (fun e => ?_) (fun e => ?_)⟩
      · have hc : d.1 ∈ twC := of_decide_eq_true ((inS d.1 twC).symm.trans e)
        refine ⟨.ref rs[i], rfl, ys, eCT, ?_, ys ++ [.ref rs[i]], ?_, upd_same, old _ sT _⟩
        · have := awLen hd
          have h2 := carN_le (ds.take i)
          rw [List.length_take] at h2
          exact small1000 (by omega)
        · rw [List.length_append, hy, List.take_add_one, hd1, Option.toList_some, carN_snoc, if_pos hc]
          rfl
      · have hc : ¬ d.1 ∈ twC := fun z => e ((inS d.1 twC).trans (decide_eq_true z))
        exact ⟨ys, by rw [hy, List.take_add_one, hd1, Option.toList_some, carN_snoc, if_neg hc]; rfl, eCT, sT⟩
    · obtain ⟨ys, hy, eC, sm⟩ := hp
      rw [List.length_map, awLen hd, List.take_length] at hy
      rw [← hy] at q
      exact ⟨C, ys, rfl, .inl (.inl (.inl eC)), q _ sm⟩
/-! ### a row off the tape -/
def spTr : Sp := fun vs H Q _ => ∃ (a : Addr) (m n lf : Int), vs = [.ref a, .int m, .int n, .int lf] ∧ 1 ≤ m ∧ m ≤ 3 ∧ 0 ≤ n ∧ n ≤ 8 ∧ TP H a ∧
  ∀ H' R ds o, RowAt H' R m ds o → RowOk m ds o → (ds.length : Int) ≤ n → (0 ≤ lf → (carN ds : Int) ≤ lf) → TP H' a → But a H H' → Q (.ref R) H'
theorem ok_tr {f fD fE fC : Addr} {fd fdD fdE fdC : FuncData} {k : Nat} (F : Fun K "_law_row" "_law_row" s_law_row f fd) (GD : FnOk P w K mg base CX0 (k + 1) fD fdD ["tape", "many"] spDigit) (kD : PySem.W.keepIn K (.ref fD) = true)
    (GE : FnOk P w K mg base CX0 (k + 2) fE fdE ["tape", "ahead", "left"] spTd) (kE : PySem.W.keepIn K (.ref fE) = true) (GC : FnOk P w K mg base CX0 (k + 1) fC fdC ["deeds"] (spCr K)) (kC : PySem.W.keepIn K (.ref fC) = true)
    (bD : Binds K fdD ["tape", "many"] []) (bE : Binds K fdE ["tape", "ahead", "left"] []) (bC : Binds K fdC ["deeds"] []) (gD : mg "_law_digit" = some (.ref fD)) (gE : mg "_law_deed" = some (.ref fE)) (gC : mg "_law_carrying" = some (.ref fC))
    (mt : mg "tuple" = none) (mr : mg "range" = none) (mn : mg "len" = none) : FnOk P w K mg base CX0 (k + 3) f fd ["tape", "many", "most", "left"] spTr := by
  refine F.ok sc_law_row (fun vs H Q E h => ?_) (fun cdv A outer s H vs Q E hr h => ?_)
  · obtain ⟨a, m, n, lf, rfl, _⟩ := h
    rfl
  · obtain ⟨a, m, n, lf, rfl, hm, hm2, hn, hn2, ht, q⟩ := h
    have hr1 := hr.mono (show k + 1 ≤ k + 2 by omega)
    refine ⟨_, pss_cons (ps_set (i := 4) sc_law_row.nd rfl (.inl rfl) (pe_lst pa_nil))
      (pss_cons (ps_for PassesOwn.never rfl (pi_range1 (by rfl) mr (pa_cons (pe_call GD hr1 (by rfl) gD kD bD .nil pass0 (pa_cons (pv 0) (pa_cons (pe_op op_add (pv 2) pe_int) pa_nil))) pa_nil)) (pg_name (i := 5) sc_law_row.nd rfl (.inl rfl))
        (pss_one (ps_expr (pe_bm PySem.F.plainAttrs_list PySem.F.slot_list_append PySem.F.type_list_append mt_append (pv 4) (pa_cons (pe_call GE hr (by rfl) gE kE bE .nil pass0 (pa_cons (pv 0) (pa_cons (pe_op op_add (pv 1) (pv 5)) (pa_cons (pe_op op_sub (pv 3) (pe_call GC hr1 (by rfl) gC kC bC .nil pass0 (pa_cons (pv 4) pa_nil))) pa_nil)))) pa_nil)))))
      (pss_cons (ps_set (i := 6) sc_law_row.nd rfl (.inl rfl) (pe_op op_sub (pe_op op_add (pv 1) (pe_callB call_len_seq (by rfl) mn PySem.boot_len (pa_cons (pv 4) pa_nil))) pe_int))
      (pss_mid (ps_if (pt_cmpR op_eq (pe_call GD hr1 (by rfl) gD kD bD .nil pass0 (pa_cons (pv 0) (pa_cons pe_int pa_nil))) pe_int (nomark _)) (pss_one (ps_set (i := 6) sc_law_row.nd rfl (.inl rfl) (pe_call GD hr1 (by rfl) gD kD bD .nil pass0 (pa_cons (pv 0) (pa_cons (pe_op op_add (pv 1) (pe_callB call_len_seq (by rfl) mn PySem.boot_len (pa_cons (pv 4) pa_nil))) pa_nil))))) pss_nil)
      (pss_one (ps_ret (pe_tup (pa_cons (pv 1) (pa_cons (pe_callTy call_tuple_of (by rfl) mt (by decide +kernel) (pa_cons (pv 4) pa_nil)) (pa_cons (pv 6) pa_nil))))))))), ?_⟩
    refine ⟨Nat.zero_le _, fun D hD => ?_⟩
    have nD := ht.ne_new hD
    have sD := same_new (o := .lst []) hD
    refine ⟨.ref a, rfl, .int n, rfl, n, 1, rfl, rfl, a, n + 1, rfl, by omega, by omega, ht.upd nD, fun H1 sz z0 z1 t1 b1 => ?_⟩
    have bH : But a H H1 := (But.same sD).trans b1
    refine ⟨sz, rfl, by omega, by omega, for_range (lo := 0) (n := sz.toNat) (fun i σ H3 => ∃ y rs ds, σ = [some (.ref a), some (.int m), some (.int n), some (.int lf), some (.ref D), y, none] ∧ H3 D = some (.lst (rs.map V.ref)) ∧ DsAt H3 rs ds ∧ ds.length = i ∧ DsOk m ds ∧ (0 ≤ lf → (carN ds : Int) ≤ lf) ∧ TP H3 a ∧ But a H H3)
      ⟨none, [], [], rfl, b1 _ _ nD upd_same, .nil, rfl, ⟨fun k d e => by simp at e⟩, (fun z => z), t1, bH⟩ (fun i σ H3 hi hp => ?_) (fun σ H3 hp => ?_)⟩
    · obtain ⟨y, rs, ds, rfl, eD, hd, hl, ok, hcn, t3, b3⟩ := hp
      refine ⟨.ref D, rfl, .inl ⟨rfl, _, .inl (.inl eD)⟩, .ref a, rfl, .int m, rfl, .int (0 + i), rfl, m, 0 + i, rfl, rfl, .int lf, rfl, .ref D, rfl, D, rs, ds, rfl, .inl (.inl eD), hd, by omega, fun H4 s4 => ?_⟩
      refine ⟨lf, carN ds, rfl, rfl, a, m + (0 + i), lf - carN ds, rfl, by omega, by omega, t3.same s4, fun H5 r d hok hcalm er t5 b5 => ?_⟩
      have eD5 := b5 _ _ nD (s4 _ _ eD)
      refine ⟨D, _, _, rfl, rfl, eD5, ?_, some (.int (0 + i)), rs ++ [r], ds ++ [d], rfl, ?_, ?_, ?_, ?_, ?_, t5.upd nD, ?_⟩
      · rw [List.length_map, awLen hd]
        exact small1000 (by omega)
      · rw [upd_same, List.map_append]
        rfl
      · exact (tups_put eD5).ds (awSnoc (F := fun r d => H5 r = some (.tup (dV d))) er ((b5.tape (t3.same s4)).ds ((Same.tups s4).ds hd)))
      · rw [List.length_append, hl]
        rfl
      · refine dsOk_snoc ok ?_
        rw [hl]
        have : m + (0 + (i : Int)) = m + i := by omega
        rw [this] at hok
        exact hok
      · intro h0
        have h1 := hcn h0
        rw [carN_snoc]
        by_cases hz : d.1 ∈ twC
        · rw [if_pos hz]
          have : ¬ lf - (carN ds : Int) = 0 := fun z => hcalm z hz
          omega
        · rw [if_neg hz]
          omega
      · intro b o nb e
        have nbD : b ≠ D := ne_of_none e hD
        rw [upd_ne nbD]
        exact b5 b o nb (s4 b o (b3 b o nb e))
    · obtain ⟨y, rs, ds, rfl, eD, hd, hl, ok, hcn, t3, b3⟩ := hp
      have elen : ((rs.map V.ref).length : Int) = ds.length := by rw [List.length_map, awLen hd]
      refine ⟨.int m, rfl, .ref D, rfl, D, _, rfl, .inl (.inl (.inl eD)), m, _, rfl, rfl, _, 1, rfl, rfl, ?_⟩
      refine ⟨fun σ4 H4 => ∃ o, σ4 = [some (.ref a), some (.int m), some (.int n), some (.int lf), some (.ref D), y, some (.int o)] ∧ 0 ≤ o ∧ o < m + ds.length ∧ H4 D = some (.lst (rs.map V.ref)) ∧ DsAt H4 rs ds ∧ TP H4 a ∧ But a H H4, ?_, ?_⟩
      · refine ⟨.ref a, rfl, a, 5, rfl, by decide, by decide, t3, fun H4 u u0 u1 t4 b4 => ⟨rfl, _, rfl, ite2 (fun e => ?_) (fun e => ?_)⟩⟩
        · refine ⟨.ref a, rfl, .int m, rfl, .ref D, rfl, D, _, rfl, .inl (.inl (.inl (b4 _ _ nD eD))), m, _, rfl, rfl, a, _, rfl, by omega, by omega, t4, fun H5 o o0 o1 t5 b5 => ?_⟩
          exact ⟨o, rfl, o0, by omega, b5 _ _ nD (b4 _ _ nD eD), ((b4.tape t3).trans (b5.tape t4)).ds hd, t5, (b3.trans b4).trans b5⟩
        · exact ⟨m + ((rs.map V.ref).length : Int) - 1, rfl, by omega, by omega, b4 _ _ nD eD, (b4.tape t3).ds hd, t4, b3.trans b4⟩
      · rintro σ4 H4 ⟨o, rfl, o0, o1, eD4, hd4, t4, b4⟩
        refine ⟨.int m, rfl, .ref D, rfl, D, _, rfl, .inl ⟨.inl (.inl eD4), fun T hT => ?_⟩⟩
        refine ⟨.int o, rfl, by show 3 ≤ sizeLine; decide, fun R hR => ?_⟩
        have s1 : Same H4 (upd H4 T (.tup (rs.map V.ref))) := same_new hT
        have s2 := same_new (o := .tup [.int m, .ref T, .int o]) hR
        exact q _ R ds o ⟨T, rs, upd_same, s2 _ _ upd_same, (Same.tups (s1.trans s2)).ds hd4⟩ ⟨hm, hm2, by omega, ok, o0, by omega⟩ (by omega) hcn (t4.same (s1.trans s2)) (b4.trans (But.same (s1.trans s2)))
/-! ### first_carry -/
def spFc : Sp := fun vs H Q _ => ∃ (R : Addr) (m o : Int) (ds : List Deed), vs = [.ref R] ∧ RowAt H R m ds o ∧ ds.length ≤ 100 ∧ ∀ H' p, Same H H' → H p = none → H' p = some (.tup ((ds.map fcD).map V.int)) → Q (.ref p) H'
theorem ok_fc {f : Addr} {fd : FuncData} {k : Nat} (F : Fun K "first_carry" "first_carry" s_first_carry f fd) (mt : mg "tuple" = none) : FnOk P w K mg base CX0 (k + 1) f fd ["row"] spFc := by
  refine F.ok sc_first_carry (fun vs H Q E h => ?_) (fun cdv A outer s H vs Q E hr h => ?_)
  · obtain ⟨R, m, o, ds, rfl, _⟩ := h
    rfl
  · obtain ⟨R, m, o, ds, rfl, hrow, hl, q⟩ := h
    obtain ⟨D, rs, eR, eD, hd⟩ := id hrow
    refine ⟨_, pss_one (ps_ret (pe_callTy call_tuple_of (by rfl) mt (by decide +kernel) (pa_cons
      (pe_lc (own := [("deed", 1)]) (g := gName 1) (by rfl) sc_first_carry.nd (pi_tup (pe_ix ix_tup (pv 0) pe_int (fun _ _ => rfl))) (blkOk_by (own := [("deed", 1)]) (N := N_first_carry) (sc := defScope s_first_carry) (by decide +kernel))
        (fun _ _ _ _ _ => pg_name (i := 1) sc_first_carry.nd rfl (Or.inl rfl)) (fun _ _ _ _ _ => pts_nil)
        (fun _ _ _ _ _ => pe_ifExp (pt_cmpR (r := rIn K false) op_in_seq (pe_ix (r := rIxT K) ix_tup (pv 1) pe_int (fun _ _ => rfl)) (pe_tup (pa_cons pe_str (pa_cons pe_str pa_nil))) (by rfl)) pe_int pe_int)) pa_nil))), ?_⟩
    refine ⟨.ref R, rfl, R, _, 1, .ref D, rfl, rfl, SqT.of eR, rfl, D, rfl, ⟨_, SqT.of eD⟩, fun L hL => ?_⟩
    refine lc_tup (K := K) (a := D) (xs := rs.map V.ref) (fun i H4 => H4 L = some (.lst (((ds.take i).map fcD).map V.int)) ∧ Same H H4) ⟨upd_same, same_new hL⟩ (fun i H4 _ hp => SqT.of (hp.2 _ _ eD)) (fun i x H4 hx hp => ?_) (fun H4 hp => ?_)
    · obtain ⟨eL, sm⟩ := hp
      have hi : i < rs.length := by
        have := (List.getElem?_eq_some_iff.mp hx).1
        rwa [List.length_map] at this
      have hx' : x = .ref rs[i] := by
        rw [List.getElem?_map, List.getElem?_eq_getElem hi] at hx
        exact (Option.some.inj hx).symm
      subst hx'
      obtain ⟨d, hd1, hd2⟩ := awGet hd (List.getElem?_eq_getElem hi)
      refine ⟨rfl, .ref rs[i], rfl, rs[i], _, 0, .str d.1, rfl, rfl, SqT.of (sm _ _ hd2), dv0 d, by show 2 ≤ sizeLine; decide, fun T hT => ?_⟩
      have sT := same_new (o := .tup [.str "neg", .str "one"]) hT
      have eL2 := sT _ _ eL
      have old : ∀ o, Same H (upd (upd H4 T (.tup [.str "neg", .str "one"])) L o) := fun o b u e => by
        rw [upd_ne (ne_of_none e hL)]
        exact sT b u (sm b u e)
      have small : (((ds.take i).map fcD).map V.int).length < sizeLine := by
        rw [List.length_map, List.length_map, List.length_take]
        exact small1000 (by omega)
      have hin := inS d.1 ["neg", "one"]
      refine ⟨T, _, rfl, .inr (SqT.of upd_same), rfl, rfl, _, rfl, ite2 (fun e => ?_) (fun e => ?_)⟩
      · have hm : d.1 ∈ (["neg", "one"] : List Str) := of_decide_eq_true (hin.symm.trans e)
        have e1 : fcD d = 1 := if_pos hm
        refine ⟨_, eL2, small, ?_, old _⟩
        rw [upd_same, List.take_add_one, hd1]
        simp [e1]
      · have hm : ¬ d.1 ∈ (["neg", "one"] : List Str) := fun z => e (hin.trans (decide_eq_true z))
        have e1 : fcD d = 0 := if_neg hm
        refine ⟨_, eL2, small, ?_, old _⟩
        rw [upd_same, List.take_add_one, hd1]
        simp [e1]
    · obtain ⟨eL, sm⟩ := hp
      rw [List.length_map, awLen hd, List.take_length] at eL
      refine ⟨L, _, rfl, .inl ⟨.inl (.inl eL), fun p hp => ?_⟩⟩
      exact q _ p (sm.trans (same_new hp)) (sm.free hp) upd_same
/-! ### deed_bit, bits_of -/
def spDb (K : PySem.W.Frag) : Sp := fun vs H Q _ => ∃ (r L : Addr) (d : Deed) (told : List Int) (c : Int), vs = [.ref r, .int c, .ref L] ∧ H r = some (.tup (dV d)) ∧ SqL K H L (told.map V.int) ∧ DeedOk told.length d ∧ Q (.int (dbitAt d c told)) H
theorem ok_db {f : Addr} {fd : FuncData} {k : Nat} (F : Fun K "deed_bit" "deed_bit" s_deed_bit f fd) : FnOk P w K mg base CX0 (k + 1) f fd ["deed", "held", "told"] (spDb K) := by
  refine F.ok sc_deed_bit (fun vs H Q E h => ?_) (fun cdv A outer s H vs Q E hr h => ?_)
  · obtain ⟨r, L, d, told, c, rfl, _⟩ := h
    rfl
  · obtain ⟨r, L, d, told, c, rfl, er, eL, ok, q⟩ := h
    refine ⟨_, pss_cons (ps_set (i := 3) sc_deed_bit.nd rfl (.inl rfl) (pe_ix ix_tup (pv 0) pe_int (fun _ _ => rfl)))
      (pss_cons (ps_if (pt_cmpR op_eq (pv 3) pe_str (nomark _)) (pss_one (ps_ret pe_int)) pss_nil)
      (pss_cons (ps_if (pt_cmpR op_eq (pv 3) pe_str (nomark _)) (pss_one (ps_ret pe_int)) pss_nil)
      (pss_cons (ps_if (PW.pt (pw_or (pt_cmpR op_eq (pv 3) pe_str (nomark _)) (pw_or1 (pt_cmpR op_eq (pv 3) pe_str (nomark _))))) (pss_one (ps_ret (pv 1))) pss_nil)
      (pss_cons (ps_set (i := 4) sc_deed_bit.nd rfl (.inl rfl) (pe_ix ix_list (pv 2) (pe_ix ix_tup (pv 0) pe_int (fun _ _ => rfl)) (fun _ _ => rfl)))
      (pss_cons (ps_if (pt_cmpR op_eq (pv 3) pe_str (nomark _)) (pss_one (ps_ret (pe_op op_sub pe_int (pv 4)))) pss_nil)
      (pss_cons (ps_if (pt_cmpR op_eq (pv 3) pe_str (nomark _)) (pss_one (ps_ret (pe_op op_xor (pe_op op_sub pe_int (pv 4)) (pv 1)))) pss_nil)
      (pss_cons (ps_set (i := 5) sc_deed_bit.nd rfl (.inl rfl) (pe_ix ix_list (pv 2) (pe_ix ix_tup (pv 0) pe_int (fun _ _ => rfl)) (fun _ _ => rfl)))
      (pss_cons (ps_if (pt_cmpR op_eq (pv 3) pe_str (nomark _)) (pss_one (ps_ret (pe_op op_and (pv 4) (pv 5)))) pss_nil)
      (pss_cons (ps_if (pt_cmpR op_eq (pv 3) pe_str (nomark _)) (pss_one (ps_ret (pe_op op_or (pv 4) (pv 5)))) pss_nil)
      (pss_cons (ps_if (pt_cmpR op_eq (pv 3) pe_str (nomark _)) (pss_one (ps_ret (pe_op op_xor (pv 4) (pv 5)))) pss_nil)
      (pss_one (ps_ret (pe_op op_xor (pe_op op_xor (pv 4) (pv 5)) (pv 1)))))))))))))), ?_⟩
    unfold dbitAt dbit at q
    refine ⟨.ref r, rfl, r, _, 0, .str d.1, rfl, rfl, SqT.of er, dv0 d, ?_⟩
    refine ⟨.str d.1, rfl, rfl, _, rfl, ite2 (fun e => ?_) (fun n1 => ?_)⟩
    · rw [if_pos (strEq e)] at q
      exact q
    rw [if_neg (strNe n1)] at q
    refine ⟨.str d.1, rfl, rfl, _, rfl, ite2 (fun e => ?_) (fun n2 => ?_)⟩
    · rw [if_pos (strEq e)] at q
      exact q
    rw [if_neg (strNe n2)] at q
    refine ⟨.str d.1, rfl, rfl, _, rfl, ite2 (fun e => ?_) (fun n3 => ?_)⟩
    · rw [if_pos (strEq e)] at q
      exact ⟨.int c, rfl, q⟩
    rw [if_neg (strNe n3)] at q
    refine ⟨.str d.1, rfl, rfl, _, rfl, ite2 (fun e => ?_) (fun n4 => ?_)⟩
    · rw [if_pos (strEq e)] at q
      exact ⟨.int c, rfl, q⟩
    rw [if_neg (strNe n4)] at q
    obtain ⟨i, hi, ai, ei⟩ := arg1 ok (strNe n1) (strNe n3) (strNe n2)
    refine ⟨.ref L, rfl, .ref r, rfl, r, _, 1, .int i, rfl, rfl, SqT.of er, dvN (k := 0) hi, L, _, i, .int (argAt d told 0), rfl, rfl, eL, ei, ?_⟩
    refine ⟨.str d.1, rfl, rfl, _, rfl, ite2 (fun e => ?_) (fun n5 => ?_)⟩
    · rw [if_pos (strEq e)] at q
      exact ⟨.int _, rfl, 1, _, rfl, rfl, q⟩
    rw [if_neg (strNe n5)] at q
    refine ⟨.str d.1, rfl, rfl, _, rfl, ite2 (fun e => ?_) (fun n6 => ?_)⟩
    · rw [if_pos (strEq e)] at q
      exact ⟨.int _, rfl, 1, _, rfl, rfl, .int c, rfl, _, _, rfl, rfl, q⟩
    rw [if_neg (strNe n6)] at q
    obtain ⟨j, hj, aj, ej⟩ := arg2 ok (strNe n1) (strNe n3) (strNe n2) (strNe n5) (strNe n6) (strNe n4)
    refine ⟨.ref L, rfl, .ref r, rfl, r, _, 2, .int j, rfl, rfl, SqT.of er, dvN (k := 1) hj, L, _, j, .int (argAt d told 1), rfl, rfl, eL, ej, ?_⟩
    refine ⟨.str d.1, rfl, rfl, _, rfl, ite2 (fun e => ?_) (fun n7 => ?_)⟩
    · rw [if_pos (strEq e)] at q
      exact ⟨.int _, rfl, .int _, rfl, _, _, rfl, rfl, q⟩
    rw [if_neg (strNe n7)] at q
    refine ⟨.str d.1, rfl, rfl, _, rfl, ite2 (fun e => ?_) (fun n8 => ?_)⟩
    · rw [if_pos (strEq e)] at q
      exact ⟨.int _, rfl, .int _, rfl, _, _, rfl, rfl, q⟩
    rw [if_neg (strNe n8)] at q
    refine ⟨.str d.1, rfl, rfl, _, rfl, ite2 (fun e => ?_) (fun n9 => ?_)⟩
    · rw [if_pos (strEq e)] at q
      exact ⟨.int _, rfl, .int _, rfl, _, _, rfl, rfl, q⟩
    rw [if_neg (strNe n9)] at q
    exact ⟨.int _, rfl, .int _, rfl, _, _, rfl, rfl, .int c, rfl, _, _, rfl, rfl, q⟩
def spBo : Sp := fun vs H Q _ => ∃ (R C B : Addr) (m o : Int) (ds : List Deed) (cs bs : List Int), vs = [.ref R, .ref C, .ref B] ∧ RowAt H R m ds o ∧ DsOk m ds ∧ ds.length ≤ 100 ∧ H C = some (.tup (cs.map V.int)) ∧ cs.length = ds.length ∧ H B = some (.tup (bs.map V.int)) ∧ (bs.length : Int) = m ∧ bs.length ≤ 100 ∧
  ∀ H' p, Same H H' → H p = none → H' p = some (.tup ((bts ds cs bs).map V.int)) → Q (.ref p) H'
theorem ok_bo {f fB : Addr} {fd fdB : FuncData} {k : Nat} (F : Fun K "bits_of" "bits_of" s_bits_of f fd) (GB : FnOk P w K mg base CX0 (k + 1) fB fdB ["deed", "held", "told"] (spDb K)) (kB : PySem.W.keepIn K (.ref fB) = true) (bB : Binds K fdB ["deed", "held", "told"] []) (gB : mg "deed_bit" = some (.ref fB))
    (ml : mg "list" = none) (mt : mg "tuple" = none) (mz : mg "zip" = none) : FnOk P w K mg base CX0 (k + 2) f fd ["row", "carry", "bits"] spBo := by
  refine F.ok sc_bits_of (fun vs H Q E h => ?_) (fun cdv A outer s H vs Q E hr h => ?_)
  · obtain ⟨R, C, B, m, o, ds, cs, bs, rfl, _⟩ := h
    rfl
  · obtain ⟨R, C, B, m, o, ds, cs, bs, rfl, hrow, hok, hds, eC, hcl, eB, hm, hbl, q⟩ := h
    obtain ⟨D, rs, eR, eD, hd⟩ := id hrow
    refine ⟨_, pss_cons (ps_set (i := 3) sc_bits_of.nd rfl (.inl rfl) (pe_callTy call_list_of (by rfl) ml (by decide +kernel) (pa_cons (pv 2) pa_nil)))
      (pss_cons (ps_for PassesOwn.never rfl (RZ.pi_zipA (by rfl) mz (pa_cons (pe_ix ix_tup (pv 0) pe_int (fun _ _ => rfl)) (pa_cons (pv 1) pa_nil))) (pg_tup rfl (pgs_cons (pg_name (i := 4) sc_bits_of.nd rfl (.inl rfl)) (pgs_cons (pg_name (i := 5) sc_bits_of.nd rfl (.inl rfl)) pgs_nil)))
        (pss_one (ps_expr (pe_bm PySem.F.plainAttrs_list PySem.F.slot_list_append PySem.F.type_list_append mt_append (pv 3) (pa_cons (pe_call GB hr (by rfl) gB kB bB .nil pass0 (pa_cons (pv 4) (pa_cons (pv 5) (pa_cons (pv 3) pa_nil)))) pa_nil)))))
      (pss_one (ps_ret (pe_callTy call_tuple_of (by rfl) mt (by decide +kernel) (pa_cons (pv 3) pa_nil))))), ?_⟩
    refine ⟨.ref B, rfl, B, _, rfl, .inr (SqT.of eB), fun L hL => ?_⟩
    have sL := same_new (o := .lst (bs.map V.int)) hL
    have lrs : (rs.map V.ref).length = ds.length := by rw [List.length_map, awLen hd]
    have lcs : (cs.map V.int).length = ds.length := by rw [List.length_map, hcl]
    refine ⟨.ref R, rfl, R, _, 1, .ref D, rfl, rfl, SqT.of (sL _ _ eR), rfl, .ref C, rfl, D, C, _, _, rfl, .inr ⟨SqT.of (sL _ _ eD), SqT.of (sL _ _ eC), RZ.for_zipT (K := K) (xs := rs.map V.ref) (ys := cs.map V.int) (lrs.trans lcs.symm) (fun i σ H3 => ∃ y4 y5, σ = [some (.ref R), some (.ref C), some (.ref B), some (.ref L), y4, y5] ∧ H3 L = some (.lst ((bts (ds.take i) (cs.take i) bs).map V.int)) ∧ Same H H3) ⟨none, none, rfl, by rw [upd_same]; cases ds <;> rfl, sL⟩ (fun i σ H3 hp => ?_) (fun i x y T σ H3 hx hy hp hT => ?_) (fun σ H3 hp => ?_)⟩⟩
    · obtain ⟨_, _, _, _, sm⟩ := hp
      exact ⟨SqT.of (sm _ _ eD), SqT.of (sm _ _ eC)⟩
    · obtain ⟨y4, y5, rfl, e3, sm⟩ := hp
      have hi : i < rs.length := by
        have := (List.getElem?_eq_some_iff.mp hx).1
        rwa [List.length_map] at this
      have hx' : x = .ref rs[i] := by
        rw [List.getElem?_map, List.getElem?_eq_getElem hi] at hx
        exact (Option.some.inj hx).symm
      subst hx'
      obtain ⟨d, hd1, hd2⟩ := awGet hd (List.getElem?_eq_getElem hi)
      obtain ⟨c, hc, rfl⟩ : ∃ c, cs[i]? = some c ∧ y = .int c := by
        rw [List.getElem?_map] at hy
        cases e : cs[i]? with
        | none => rw [e] at hy; cases hy
        | some c => rw [e] at hy; exact ⟨c, rfl, (Option.some.inj hy).symm⟩
      have h2 : i < ds.length := by
        rw [← awLen hd]
        exact hi
      have hlen : (bts (ds.take i) (cs.take i) bs).length = bs.length + i := by
        rw [bts_len (by rw [List.length_take, List.length_take, hcl]), List.length_take, Nat.min_eq_left (Nat.le_of_lt h2)]
      have okd : DeedOk (bts (ds.take i) (cs.take i) bs).length d := by
        rw [hlen]
        have := hok.each i d hd1
        rw [← hm] at this
        exact this
      have sT := same_new (o := .tup [.ref rs[i], .int c]) hT
      have e4 := sT _ _ e3
      refine ⟨T, [.ref rs[i], .int c], rfl, .inl (.inl upd_same), rfl, .ref rs[i], [.int c], rfl, .int c, [], rfl, rfl, ?_⟩
      refine ⟨.ref L, rfl, .inl ⟨rfl, _, .inl (.inl e4)⟩, .ref rs[i], rfl, .int c, rfl, .ref L, rfl, rs[i], L, d, _, c, rfl, sT _ _ (sm _ _ hd2), .inl (.inl e4), okd, L, _, _, rfl, rfl, e4, ?_, some (.ref rs[i]), some (.int c), rfl, ?_, ?_⟩
      · rw [List.length_map, hlen]
        exact small1000 (by omega)
      · rw [upd_same, bts_next hd1 hc, List.map_append]
        rfl
      · intro b u e
        rw [upd_ne (ne_of_none e hL)]
        exact sT b u (sm b u e)
    · obtain ⟨y4, y5, rfl, e3, sm⟩ := hp
      rw [lrs, List.take_length, ← hcl, List.take_length] at e3
      refine ⟨.ref L, rfl, L, _, rfl, .inl ⟨.inl (.inl e3), fun p hp => ?_⟩⟩
      exact q _ p (sm.trans (same_new hp)) (sm.free hp) upd_same
/-! ### two_or_more, deed_carry -/
def spTm : Sp := fun vs H Q _ => ∃ a b c : Int, vs = [.int a, .int b, .int c] ∧ Q (.int ((a + b + c) / 2)) H
theorem ok_tm {f : Addr} {fd : FuncData} {k : Nat} (F : Fun K "two_or_more" "two_or_more" s_two_or_more f fd) : FnOk P w K mg base CX0 (k + 1) f fd ["one", "other", "third"] spTm := by
  refine F.ok sc_two_or_more (fun vs H Q E h => ?_) (fun cdv A outer s H vs Q E hr h => ?_)
  · obtain ⟨a, b, c, rfl, _⟩ := h
    rfl
  · obtain ⟨a, b, c, rfl, q⟩ := h
    refine ⟨_, pss_one (ps_ret (pe_op op_fdiv (pe_op op_add (pe_op op_add (pv 0) (pv 1)) (pv 2)) pe_int)), ?_⟩
    exact ⟨.int a, rfl, .int b, rfl, a, b, rfl, rfl, .int c, rfl, _, c, rfl, rfl, _, 2, rfl, rfl, ⟨by decide, by decide⟩, q⟩
def spDc : Sp := fun vs H Q _ => ∃ (r L : Addr) (d : Deed) (told : List Int) (c : Int), vs = [.ref r, .int c, .ref L] ∧ H r = some (.tup (dV d)) ∧ H L = some (.tup (told.map V.int)) ∧ DeedOk told.length d ∧ Q (.int (dcarAt d c told)) H
theorem ok_dc {f fT : Addr} {fd fdT : FuncData} {k : Nat} (F : Fun K "deed_carry" "deed_carry" s_deed_carry f fd) (GT : FnOk P w K mg base CX0 (k + 1) fT fdT ["one", "other", "third"] spTm) (kT : PySem.W.keepIn K (.ref fT) = true) (bT : Binds K fdT ["one", "other", "third"] []) (gT : mg "two_or_more" = some (.ref fT)) :
    FnOk P w K mg base CX0 (k + 2) f fd ["deed", "held", "told"] spDc := by
  refine F.ok sc_deed_carry (fun vs H Q E h => ?_) (fun cdv A outer s H vs Q E hr h => ?_)
  · obtain ⟨r, L, d, told, c, rfl, _⟩ := h
    rfl
  · obtain ⟨r, L, d, told, c, rfl, er, eL, ok, q⟩ := h
    refine ⟨_, pss_cons (ps_set (i := 3) sc_deed_carry.nd rfl (.inl rfl) (pe_ix ix_tup (pv 0) pe_int (fun _ _ => rfl)))
      (pss_cons (ps_if (pt_cmpR op_eq (pv 3) pe_str (nomark _)) (pss_one (ps_ret (pe_op op_and (pe_op op_sub pe_int (pe_ix ix_tup (pv 2) (pe_ix ix_tup (pv 0) pe_int (fun _ _ => rfl)) (fun _ _ => rfl))) (pv 1)))) pss_nil)
      (pss_cons (ps_if (pt_cmpR op_eq (pv 3) pe_str (nomark _)) (pss_one (ps_ret (pe_ix ix_tup (pv 2) (pe_ix ix_tup (pv 0) pe_int (fun _ _ => rfl)) (fun _ _ => rfl)))) pss_nil)
      (pss_cons (ps_if (pt_cmpR op_eq (pv 3) pe_str (nomark _)) (pss_one (ps_ret (pe_call GT hr (by rfl) gT kT bT .nil pass0 (pa_cons (pe_ix ix_tup (pv 2) (pe_ix ix_tup (pv 0) pe_int (fun _ _ => rfl)) (fun _ _ => rfl)) (pa_cons (pe_ix ix_tup (pv 2) (pe_ix ix_tup (pv 0) pe_int (fun _ _ => rfl)) (fun _ _ => rfl)) (pa_cons (pv 1) pa_nil)))))) pss_nil)
      (pss_cons (ps_if (pt_cmpR op_eq (pv 3) pe_str (nomark _)) (pss_one (ps_ret (pe_call GT hr (by rfl) gT kT bT .nil pass0 (pa_cons (pe_op op_sub pe_int (pe_ix ix_tup (pv 2) (pe_ix ix_tup (pv 0) pe_int (fun _ _ => rfl)) (fun _ _ => rfl))) (pa_cons (pe_ix ix_tup (pv 2) (pe_ix ix_tup (pv 0) pe_int (fun _ _ => rfl)) (fun _ _ => rfl)) (pa_cons (pv 1) pa_nil)))))) pss_nil)
      (pss_one (ps_ret pe_int)))))), ?_⟩
    unfold dcarAt dcar at q
    have lL : SqT K H L (told.map V.int) := SqT.of eL
    refine ⟨.ref r, rfl, r, _, 0, .str d.1, rfl, rfl, SqT.of er, dv0 d, ?_⟩
    refine ⟨.str d.1, rfl, rfl, _, rfl, ite2 (fun e => ?_) (fun n1 => ?_)⟩
    · rw [if_pos (strEq e)] at q
      have e2 := strEq e
      obtain ⟨i, hi, ai, ei⟩ := arg1 ok (by rw [e2]; decide +kernel) (by rw [e2]; decide +kernel) (by rw [e2]; decide +kernel)
      exact ⟨.ref L, rfl, .ref r, rfl, r, _, 1, .int i, rfl, rfl, SqT.of er, dvN (k := 0) hi, L, _, i, _, rfl, rfl, lL, ei, 1, _, rfl, rfl, .int c, rfl, _, _, rfl, rfl, q⟩
    rw [if_neg (strNe n1)] at q
    refine ⟨.str d.1, rfl, rfl, _, rfl, ite2 (fun e => ?_) (fun n2 => ?_)⟩
    · rw [if_pos (strEq e)] at q
      have e2 := strEq e
      obtain ⟨i, hi, ai, ei⟩ := arg1 ok (by rw [e2]; decide +kernel) (by rw [e2]; decide +kernel) (by rw [e2]; decide +kernel)
      exact ⟨.ref L, rfl, .ref r, rfl, r, _, 1, .int i, rfl, rfl, SqT.of er, dvN (k := 0) hi, L, _, i, _, rfl, rfl, lL, ei, q⟩
    rw [if_neg (strNe n2)] at q
    refine ⟨.str d.1, rfl, rfl, _, rfl, ite2 (fun e => ?_) (fun n3 => ?_)⟩
    · rw [if_pos (strEq e)] at q
      have e2 := strEq e
      obtain ⟨i, hi, ai, ei⟩ := arg1 ok (by rw [e2]; decide +kernel) (by rw [e2]; decide +kernel) (by rw [e2]; decide +kernel)
      obtain ⟨j, hj, aj, ej⟩ := arg2 ok (by rw [e2]; decide +kernel) (by rw [e2]; decide +kernel) (by rw [e2]; decide +kernel) (by rw [e2]; decide +kernel) (by rw [e2]; decide +kernel) (by rw [e2]; decide +kernel)
      exact ⟨.ref L, rfl, .ref r, rfl, r, _, 1, .int i, rfl, rfl, SqT.of er, dvN (k := 0) hi, L, _, i, _, rfl, rfl, lL, ei, .ref L, rfl, .ref r, rfl, r, _, 2, .int j, rfl, rfl, SqT.of er, dvN (k := 1) hj, L, _, j, _, rfl, rfl, lL, ej, .int c, rfl, _, _, c, rfl, q⟩
    rw [if_neg (strNe n3)] at q
    refine ⟨.str d.1, rfl, rfl, _, rfl, ite2 (fun e => ?_) (fun n4 => ?_)⟩
    · rw [if_pos (strEq e)] at q
      have e2 := strEq e
      obtain ⟨i, hi, ai, ei⟩ := arg1 ok (by rw [e2]; decide +kernel) (by rw [e2]; decide +kernel) (by rw [e2]; decide +kernel)
      obtain ⟨j, hj, aj, ej⟩ := arg2 ok (by rw [e2]; decide +kernel) (by rw [e2]; decide +kernel) (by rw [e2]; decide +kernel) (by rw [e2]; decide +kernel) (by rw [e2]; decide +kernel) (by rw [e2]; decide +kernel)
      exact ⟨.ref L, rfl, .ref r, rfl, r, _, 1, .int i, rfl, rfl, SqT.of er, dvN (k := 0) hi, L, _, i, _, rfl, rfl, lL, ei, 1, _, rfl, rfl, .ref L, rfl, .ref r, rfl, r, _, 2, .int j, rfl, rfl, SqT.of er, dvN (k := 1) hj, L, _, j, _, rfl, rfl, lL, ej, .int c, rfl, _, _, c, rfl, q⟩
    rw [if_neg (strNe n4)] at q
    exact q
theorem okd_more {m : Int} {i n : Nat} {d : Deed} (h : DeedOk (m + i) d) (hn : m + i ≤ n) : DeedOk n d := ⟨h.word, fun z hz => ⟨(h.ahead z hz).1, by have := (h.ahead z hz).2; omega⟩⟩
/-! ### bits tell values -/
def bitA (t : Nat) (x : Int) : Int := x / 2 ^ t % 2
theorem bitA_bit (t : Nat) (x : Int) : Bit (bitA t x) := by
  have h0 := Int.emod_nonneg (x / 2 ^ t) (show (2 : Int) ≠ 0 by decide)
  have h1 := Int.emod_lt_of_pos (x / 2 ^ t) (show (0 : Int) < 2 by decide)
  unfold bitA Bit
  omega
/-- the bit at p -/
theorem bit_at {V p u k r : Int} (hp : 0 < p) (h : V = p * (2 * u + k) + r) (r0 : 0 ≤ r) (r1 : r < p) : V / p % 2 = k % 2 := by
  have e : V / p = 2 * u + k := by
    rw [h, Int.add_comm, Int.add_mul_ediv_left _ _ (by omega), Int.ediv_eq_zero_of_lt r0 r1, Int.zero_add]
  rw [e]
  omega
theorem bit_val {k : Int} (h : Bit k) : k % 2 = k := by rcases h with rfl | rfl <;> decide
theorem low_next (A : Int) {p : Int} (hp : 0 < p) : A % (2 * p) = p * (A / p % 2) + A % p := by
  have e := Int.mul_ediv_add_emod A p
  have e2 := Int.mul_ediv_add_emod (A / p) 2
  have r0 := Int.emod_nonneg A (show p ≠ 0 by omega)
  have r1 := Int.emod_lt_of_pos A hp
  have hb := bitA_bit 0 (A / p)
  have b : A / p % 2 = 0 ∨ A / p % 2 = 1 := by omega
  have e3 : A = 2 * p * (A / p / 2) + (p * (A / p % 2) + A % p) := by
    have z : p * (A / p) = p * (2 * (A / p / 2) + A / p % 2) := by rw [e2]
    rw [Int.mul_add, ← Int.mul_assoc, Int.mul_comm p 2] at z
    omega
  have s0 : 0 ≤ p * (A / p % 2) + A % p := by rcases b with b | b <;> rw [b] <;> omega
  have s1 : p * (A / p % 2) + A % p < 2 * p := by rcases b with b | b <;> rw [b] <;> omega
  generalize p * (A / p % 2) + A % p = s at e3 s0 s1
  rw [e3, Int.mul_add_emod_self_left, Int.emod_eq_of_lt s0 s1]
/-- what is carried into the bit at p -/
def CI (x : Str) (A B p c : Int) : Prop :=
  if x = "add" then ∃ r, A % p + B % p = p * c + r ∧ 0 ≤ r ∧ r < p
  else if x = "sub" then ∃ r, A % p - B % p = r - p * c ∧ 0 ≤ r ∧ r < p
  else if x = "neg" then ∃ r, -(A % p) = r - p * (1 - c) ∧ 0 ≤ r ∧ r < p
  else if x = "twice" then ∃ r, A % p + A % p = p * c + r ∧ 0 ≤ r ∧ r < p
  else if x = "one" then c = if p = 1 then 1 else 0
  else c = 0
theorem ci_first (d : Deed) (A B : Int) : CI d.1 A B 1 (fcD d) := by
  unfold CI fcD
  rw [Int.emod_one, Int.emod_one]
  by_cases h1 : d.1 = "add"
  · rw [if_pos h1, h1]
    exact ⟨0, by decide, by decide, by decide⟩
  rw [if_neg h1]
  by_cases h2 : d.1 = "sub"
  · rw [if_pos h2, h2]
    exact ⟨0, by decide, by decide, by decide⟩
  rw [if_neg h2]
  by_cases h3 : d.1 = "neg"
  · rw [if_pos h3, h3]
    exact ⟨0, by decide, by decide, by decide⟩
  rw [if_neg h3]
  by_cases h4 : d.1 = "twice"
  · rw [if_pos h4, h4]
    exact ⟨0, by decide, by decide, by decide⟩
  rw [if_neg h4]
  by_cases h5 : d.1 = "one"
  · rw [if_pos h5, h5]
    decide
  rw [if_neg h5, if_neg (by simp [h3, h5])]
theorem ci_next {x : Str} {A B p c : Int} (hp : 0 < p) (hc : Bit c) (h : CI x A B p c) : CI x A B (2 * p) (dcar x (A / p % 2) (B / p % 2) c) := by
  have ba : Bit (A / p % 2) := by unfold Bit; omega
  have bb : Bit (B / p % 2) := by unfold Bit; omega
  have la := low_next A hp
  have lb := low_next B hp
  have a0 := Int.emod_nonneg A (show p ≠ 0 by omega)
  have a1 := Int.emod_lt_of_pos A hp
  generalize A / p % 2 = α at la ba
  generalize B / p % 2 = β at lb bb
  unfold CI at h ⊢
  rw [la, lb]
  generalize A % p = a at h a0 a1
  generalize B % p = b at h
  by_cases h1 : x = "add"
  · subst h1
    rw [if_pos rfl] at h ⊢
    obtain ⟨r, e, r0, r1⟩ := h
    rcases ba with rfl | rfl <;> rcases bb with rfl | rfl <;> rcases hc with rfl | rfl
    · exact ⟨r, by show _ = 2 * p * 0 + r; omega, r0, by omega⟩
    · exact ⟨p + r, by show _ = 2 * p * 0 + (p + r); omega, by omega, by omega⟩
    · exact ⟨p + r, by show _ = 2 * p * 0 + (p + r); omega, by omega, by omega⟩
    · exact ⟨r, by show _ = 2 * p * 1 + r; omega, r0, by omega⟩
    · exact ⟨p + r, by show _ = 2 * p * 0 + (p + r); omega, by omega, by omega⟩
    · exact ⟨r, by show _ = 2 * p * 1 + r; omega, r0, by omega⟩
    · exact ⟨r, by show _ = 2 * p * 1 + r; omega, r0, by omega⟩
    · exact ⟨p + r, by show _ = 2 * p * 1 + (p + r); omega, by omega, by omega⟩
  rw [if_neg h1] at h ⊢
  by_cases h2 : x = "sub"
  · subst h2
    rw [if_pos rfl] at h ⊢
    obtain ⟨r, e, r0, r1⟩ := h
    rcases ba with rfl | rfl <;> rcases bb with rfl | rfl <;> rcases hc with rfl | rfl
    · exact ⟨r, by show _ = r - 2 * p * 0; omega, r0, by omega⟩
    · exact ⟨p + r, by show _ = (p + r) - 2 * p * 1; omega, by omega, by omega⟩
    · exact ⟨p + r, by show _ = (p + r) - 2 * p * 1; omega, by omega, by omega⟩
    · exact ⟨r, by show _ = r - 2 * p * 1; omega, r0, by omega⟩
    · exact ⟨p + r, by show _ = (p + r) - 2 * p * 0; omega, by omega, by omega⟩
    · exact ⟨r, by show _ = r - 2 * p * 0; omega, r0, by omega⟩
    · exact ⟨r, by show _ = r - 2 * p * 0; omega, r0, by omega⟩
    · exact ⟨p + r, by show _ = (p + r) - 2 * p * 1; omega, by omega, by omega⟩
  rw [if_neg h2] at h ⊢
  by_cases h3 : x = "neg"
  · subst h3
    rw [if_pos rfl] at h ⊢
    obtain ⟨r, e, r0, r1⟩ := h
    rcases ba with rfl | rfl <;> rcases hc with rfl | rfl
    · exact ⟨p + r, by show _ = (p + r) - 2 * p * (1 - 0); omega, by omega, by omega⟩
    · exact ⟨r, by show _ = r - 2 * p * (1 - 1); omega, r0, by omega⟩
    · exact ⟨r, by show _ = r - 2 * p * (1 - 0); omega, r0, by omega⟩
    · exact ⟨p + r, by show _ = (p + r) - 2 * p * (1 - 0); omega, by omega, by omega⟩
  rw [if_neg h3] at h ⊢
  by_cases h4 : x = "twice"
  · subst h4
    rw [if_pos rfl] at h ⊢
    obtain ⟨r, e, r0, r1⟩ := h
    rcases ba with rfl | rfl
    · exact ⟨a + a, by show _ = 2 * p * 0 + (a + a); omega, by omega, by omega⟩
    · exact ⟨a + a, by show _ = 2 * p * 1 + (a + a); omega, by omega, by omega⟩
  rw [if_neg h4] at h ⊢
  have hz : dcar x α β c = 0 := by
    unfold dcar
    rw [if_neg h3, if_neg h4, if_neg h1, if_neg h2]
  by_cases h5 : x = "one"
  · rw [if_pos h5, hz, if_neg (by omega)]
  · rw [if_neg h5, hz]
theorem nat_bits {a b t : Nat} : ((a &&& b) / 2 ^ t % 2 = (a / 2 ^ t % 2) &&& (b / 2 ^ t % 2)) ∧ ((a ||| b) / 2 ^ t % 2 = (a / 2 ^ t % 2) ||| (b / 2 ^ t % 2)) ∧ ((a ^^^ b) / 2 ^ t % 2 = (a / 2 ^ t % 2) ^^^ (b / 2 ^ t % 2)) := by
  refine ⟨?_, ?_, ?_⟩
  · rw [← Nat.shiftRight_eq_div_pow, ← Nat.shiftRight_eq_div_pow, ← Nat.shiftRight_eq_div_pow, Nat.shiftRight_and_distrib]
    exact Nat.and_mod_two_pow (n := 1)
  · rw [← Nat.shiftRight_eq_div_pow, ← Nat.shiftRight_eq_div_pow, ← Nat.shiftRight_eq_div_pow, Nat.shiftRight_or_distrib]
    exact Nat.or_mod_two_pow (n := 1)
  · rw [← Nat.shiftRight_eq_div_pow, ← Nat.shiftRight_eq_div_pow, ← Nat.shiftRight_eq_div_pow, Nat.shiftRight_xor_distrib]
    exact Nat.xor_mod_two_pow (n := 1)
theorem cast_bit (a t : Nat) : bitA t (a : Int) = ((a / 2 ^ t % 2 : Nat) : Int) := by
  unfold bitA
  rw [pw_cast]
  omega
theorem bit_land {A B : Int} (t : Nat) (ha : 0 ≤ A) (hb : 0 ≤ B) : bitA t (Builtin.bitAnd A B) = Builtin.bitAnd (bitA t A) (bitA t B) := by
  obtain ⟨a, rfl⟩ := Int.eq_ofNat_of_zero_le ha
  obtain ⟨b, rfl⟩ := Int.eq_ofNat_of_zero_le hb
  rw [cast_bit, cast_bit, bitAnd_pp (Int.natCast_nonneg _) (Int.natCast_nonneg _), bitAnd_pp (Int.natCast_nonneg _) (Int.natCast_nonneg _)]
  simp only [Int.toNat_natCast]
  rw [cast_bit, nat_bits.1]
theorem bit_lor {A B : Int} (t : Nat) (ha : 0 ≤ A) (hb : 0 ≤ B) : bitA t (Builtin.bitOr A B) = Builtin.bitOr (bitA t A) (bitA t B) := by
  obtain ⟨a, rfl⟩ := Int.eq_ofNat_of_zero_le ha
  obtain ⟨b, rfl⟩ := Int.eq_ofNat_of_zero_le hb
  rw [cast_bit, cast_bit, bitOr_nn (Int.natCast_nonneg _) (Int.natCast_nonneg _), bitOr_nn (Int.natCast_nonneg _) (Int.natCast_nonneg _)]
  simp only [Int.toNat_natCast]
  rw [cast_bit, nat_bits.2.1]
theorem bit_lxor {A B : Int} (t : Nat) (ha : 0 ≤ A) (hb : 0 ≤ B) : bitA t (Builtin.bitXor A B) = Builtin.bitXor (bitA t A) (bitA t B) := by
  obtain ⟨a, rfl⟩ := Int.eq_ofNat_of_zero_le ha
  obtain ⟨b, rfl⟩ := Int.eq_ofNat_of_zero_le hb
  rw [cast_bit, cast_bit, Bits.bitXor_pp (Int.natCast_nonneg _) (Int.natCast_nonneg _), Bits.bitXor_pp (Int.natCast_nonneg _) (Int.natCast_nonneg _)]
  simp only [Int.toNat_natCast]
  rw [cast_bit, nat_bits.2.2]
theorem dbit_tells {x : Str} {A B c : Int} {t n : Nat} (hx : x ∈ fwL.map (·.1)) (ht : t < n) (ha : 0 ≤ A) (hb : 0 ≤ B) (hc : Bit c) (h : CI x A B (2 ^ t) c) : dbit x (bitA t A) (bitA t B) c = bitA t (dvalue x A B (2 ^ n)) := by
  have hp := pw_pos t
  have eA := Int.mul_ediv_add_emod A (2 ^ t)
  have eB := Int.mul_ediv_add_emod B (2 ^ t)
  have qa := Int.mul_ediv_add_emod (A / 2 ^ t) 2
  have qb := Int.mul_ediv_add_emod (B / 2 ^ t) 2
  have a0 := Int.emod_nonneg A (show (2 : Int) ^ t ≠ 0 by omega)
  have a1 := Int.emod_lt_of_pos A hp
  have b0 := Int.emod_nonneg B (show (2 : Int) ^ t ≠ 0 by omega)
  have b1 := Int.emod_lt_of_pos B hp
  have ba := bitA_bit t A
  have bb := bitA_bit t B
  obtain ⟨N', hN⟩ : ∃ N' : Int, (2 : Int) ^ n = 2 ^ t * (2 * N') := by
    refine ⟨2 ^ (n - t - 1), ?_⟩
    rw [show n = t + 1 + (n - t - 1) by omega, Int.pow_add, Int.pow_succ, Int.mul_assoc]
    congr 3
    omega
  have land := bit_land t ha hb
  have lor := bit_lor t ha hb
  have lxor := bit_lxor t ha hb
  have tt : bitA t (A + A) = (A + A) / 2 ^ t % 2 := rfl
  rw [hN]
  unfold CI at h
  have p1 : (2 : Int) ^ t = 1 ∨ 2 ≤ (2 : Int) ^ t := by omega
  unfold bitA at ba bb ⊢
  unfold bitA at land lor lxor
  clear tt hN
  generalize (2 : Int) ^ t = p at *
  generalize hα : A / p % 2 = α at *
  generalize hβ : B / p % 2 = β at *
  generalize A % p = a at *
  generalize B % p = b at *
  generalize A / p / 2 = A' at *
  generalize B / p / 2 = B' at *
  have dA : A = p * (2 * A' + α) + a := by rw [qa]; omega
  have dB : B = p * (2 * B' + β) + b := by rw [qb]; omega
  have mA := Int.mul_add p (2 * A') α
  have mB := Int.mul_add p (2 * B') β
  simp only [fwL, List.map_cons, List.map_nil, List.mem_cons, List.not_mem_nil, or_false] at hx
  rcases hx with rfl | rfl | rfl | rfl | rfl | rfl | rfl | rfl | rfl | rfl | rfl
  · show (0 : Int) = 0 / p % 2
    rw [Int.zero_ediv]
    rfl
  · show c = 1 / p % 2
    have hc1 : c = if p = 1 then 1 else 0 := h
    rcases p1 with p1 | p1
    · rw [hc1, if_pos p1, p1]
      decide
    · rw [hc1, if_neg (by omega), Int.ediv_eq_zero_of_lt (by omega) (by omega)]
      rfl
  · show (1 : Int) = (p * (2 * N') - 1) / p % 2
    rw [bit_at (u := N' - 1) (k := 1) (r := p - 1) hp (by rw [Int.mul_add, Int.mul_sub, Int.mul_sub]; omega) (by omega) (by omega)]
    decide
  · show 1 - α = (p * (2 * N') - 1 - A) / p % 2
    have e : p * (2 * (N' - 1 - A') + (1 - α)) = p * (2 * N') - p * (2 * A') - p * α - p := by
      rw [Int.mul_add, Int.mul_sub 2, Int.mul_sub 2, Int.mul_sub p, Int.mul_sub p, Int.mul_sub p]
      omega
    rw [bit_at (u := N' - 1 - A') (k := 1 - α) (r := p - 1 - a) hp (by rw [e]; omega) (by omega) (by omega)]
    rcases ba with rfl | rfl <;> decide
  · show Builtin.bitXor (1 - α) c = (-A) / p % 2
    obtain ⟨r, er, r0, r1⟩ : ∃ r, -a = r - p * (1 - c) ∧ 0 ≤ r ∧ r < p := h
    have e : p * (2 * (-A') + (-α - 1 + c)) = -(p * (2 * A')) - p * α - p * (1 - c) := by
      rw [Int.mul_add, Int.mul_neg, Int.mul_neg, Int.mul_sub, Int.mul_add, Int.mul_sub, Int.mul_neg]
      omega
    rw [bit_at (u := -A') (k := -α - 1 + c) (r := r) hp (by rw [e]; omega) r0 r1]
    rcases ba with rfl | rfl <;> rcases hc with rfl | rfl <;> decide
  · show c = (A + A) / p % 2
    obtain ⟨r, er, r0, r1⟩ : ∃ r, a + a = p * c + r ∧ 0 ≤ r ∧ r < p := h
    have e : p * (2 * (2 * A' + α) + c) = 2 * (p * (2 * A')) + 2 * (p * α) + p * c := by
      rw [Int.mul_add, Int.mul_left_comm, Int.mul_add p]
      omega
    rw [bit_at (u := 2 * A' + α) (k := c) (r := r) hp (by rw [e]; omega) r0 r1, bit_val hc]
  · show Builtin.bitAnd α β = Builtin.bitAnd A B / p % 2
    rw [land]
  · show Builtin.bitOr α β = Builtin.bitOr A B / p % 2
    rw [lor]
  · show Builtin.bitXor α β = Builtin.bitXor A B / p % 2
    rw [lxor]
  · show Builtin.bitXor (Builtin.bitXor α β) c = (A + B) / p % 2
    obtain ⟨r, er, r0, r1⟩ : ∃ r, a + b = p * c + r ∧ 0 ≤ r ∧ r < p := h
    have e : p * (2 * (A' + B') + (α + β + c)) = p * (2 * A') + p * (2 * B') + p * α + p * β + p * c := by
      rw [Int.mul_add 2, Int.mul_add, Int.mul_add p, Int.mul_add p, Int.mul_add p]
      omega
    rw [bit_at (u := A' + B') (k := α + β + c) (r := r) hp (by rw [e]; omega) r0 r1]
    rcases ba with rfl | rfl <;> rcases bb with rfl | rfl <;> rcases hc with rfl | rfl <;> decide
  · show Builtin.bitXor (Builtin.bitXor α β) c = (A - B) / p % 2
    obtain ⟨r, er, r0, r1⟩ : ∃ r, a - b = r - p * c ∧ 0 ≤ r ∧ r < p := h
    have e : p * (2 * (A' - B') + (α - β - c)) = p * (2 * A') - p * (2 * B') + p * α - p * β - p * c := by
      rw [Int.mul_sub 2, Int.mul_add, Int.mul_sub p, Int.mul_sub p, Int.mul_sub p]
      omega
    rw [bit_at (u := A' - B') (k := α - β - c) (r := r) hp (by rw [e]; omega) r0 r1]
    rcases ba with rfl | rfl <;> rcases bb with rfl | rfl <;> rcases hc with rfl | rfl <;> decide
/-! ### rows' bits and carries -/
theorem bit_mod {V : Int} {t n : Nat} (h : t < n) : bitA t (V % 2 ^ n) = bitA t V := by
  obtain ⟨N', hN⟩ : ∃ N' : Int, (2 : Int) ^ n = 2 ^ t * (2 * N') := by
    refine ⟨2 ^ (n - t - 1), ?_⟩
    rw [show n = t + 1 + (n - t - 1) by omega, Int.pow_add, Int.pow_succ, Int.mul_assoc]
    congr 3
    omega
  have hp := pw_pos t
  have e := Int.mul_ediv_add_emod V (2 ^ n)
  have e1 := Int.mul_ediv_add_emod (V % 2 ^ n) (2 ^ t)
  have r0 := Int.emod_nonneg (V % 2 ^ n) (show (2 : Int) ^ t ≠ 0 by omega)
  have r1 := Int.emod_lt_of_pos (V % 2 ^ n) hp
  unfold bitA
  have z : V / 2 ^ t % 2 = (V % 2 ^ n / 2 ^ t) % 2 := by
    refine bit_at (u := N' * (V / 2 ^ n)) (k := V % 2 ^ n / 2 ^ t) (r := V % 2 ^ n % 2 ^ t) hp ?_ r0 r1
    have e2 : (2 : Int) ^ t * (2 * (N' * (V / 2 ^ n))) = 2 ^ n * (V / 2 ^ n) := by rw [hN, Int.mul_assoc, Int.mul_assoc]
    rw [Int.mul_add, e2]
    omega
  exact z.symm
theorem vals_pre {N : Int} : ∀ (ds : List Deed) (t : List Int), (vals N ds t).take t.length = t
  | [], t => List.take_length
  | d :: ds, t => by
    have h := vals_pre ds (t ++ [dval N d t]) (N := N)
    show (vals N ds (t ++ [dval N d t])).take t.length = t
    have h2 : ((vals N ds (t ++ [dval N d t])).take (t ++ [dval N d t]).length).take t.length = t := by
      rw [h]
      exact List.take_left
    rw [List.take_take, List.length_append, Nat.min_eq_left (by omega)] at h2
    exact h2
theorem vals_at {N : Int} {ds : List Deed} {xs : List Int} (i : Nat) (hi : i ≤ ds.length) : vals N (ds.take i) xs = (vals N ds xs).take (xs.length + i) := by
  have e : vals N ds xs = vals N (ds.drop i) (vals N (ds.take i) xs) := by rw [← vals_append, List.take_append_drop]
  have l : (vals N (ds.take i) xs).length = xs.length + i := by rw [vals_len, List.length_take, Nat.min_eq_left hi]
  rw [e, ← l, vals_pre]
theorem ix_lt {d : Deed} {n : Nat} (h : DeedOk n d) (hn : 1 ≤ n) (k : Nat) : (d.2.getD k 0).toNat < n := by
  rw [List.getD_eq_getElem?_getD]
  cases e : d.2[k]? with
  | none => exact hn
  | some i =>
    obtain ⟨h0, h1⟩ := h.ahead i (List.mem_of_getElem? e)
    show i.toNat < n
    omega
theorem arg_map {d : Deed} {told : List Int} (f : Int → Int) (h : DeedOk told.length d) (hn : 1 ≤ told.length) (k : Nat) : argAt d (told.map f) k = f (argAt d told k) := by
  have hi := ix_lt h hn k
  unfold argAt
  generalize (d.2.getD k 0).toNat = j at hi
  rw [List.getD_eq_getElem?_getD, List.getD_eq_getElem?_getD, List.getElem?_map, List.getElem?_eq_getElem hi]
  rfl
theorem arg_take {d : Deed} {v : List Int} {n : Nat} (h : DeedOk n d) (hn : 1 ≤ n) (hv : n ≤ v.length) (k : Nat) : argAt d (v.take n) k = argAt d v k := by
  have hi := ix_lt h hn k
  unfold argAt
  generalize (d.2.getD k 0).toNat = j at hi
  rw [List.getD_eq_getElem?_getD, List.getD_eq_getElem?_getD, List.getElem?_take, if_pos hi]
/-- the carries into bit t -/
structure CIs (v : List Int) (t : Nat) (ds : List Deed) (cs : List Int) : Prop where
  len : cs.length = ds.length
  each : ∀ (k : Nat) d c, ds[k]? = some d → cs[k]? = some c → CI d.1 (argAt d v 0) (argAt d v 1) (2 ^ t) c ∧ Bit c
theorem cis_first (v : List Int) (ds : List Deed) : CIs v 0 ds (ds.map fcD) where
  len := List.length_map ..
  each := fun k d c hd hc => by
    rw [List.getElem?_map, hd] at hc
    obtain rfl := Option.some.inj hc
    refine ⟨ci_first d _ _, ?_⟩
    unfold fcD
    split
    · exact bit1
    · exact bit0
theorem cis_bits {m n t : Nat} {ds : List Deed} {xs cs : List Int} (ok : DsOk m ds) (hm : xs.length = m) (m1 : 1 ≤ m) (hx : ∀ x ∈ xs, 0 ≤ x ∧ x < 2 ^ n) (ht : t < n) (h : CIs (vals (2 ^ n) ds xs) t ds cs) : bts ds cs (xs.map (bitA t)) = (vals (2 ^ n) ds xs).map (bitA t) := by
  have vr := vals_range (pw_pos n) ds xs hx
  have vl := vals_len (size := 2 ^ n) ds xs
  have key : ∀ i, i ≤ ds.length → bts (ds.take i) (cs.take i) (xs.map (bitA t)) = ((vals (2 ^ n) ds xs).take (xs.length + i)).map (bitA t) := by
    intro i
    induction i with
    | zero =>
      intro _
      rw [Nat.add_zero, vals_pre]
      cases ds <;> rfl
    | succ i ih =>
      intro hi
      have hd : ds[i]? = some ds[i] := List.getElem?_eq_getElem (by omega)
      have hc : cs[i]? = some (cs[i]'(by rw [h.len]; omega)) := List.getElem?_eq_getElem _
      obtain ⟨h1, h2⟩ := h.each i _ _ hd hc
      generalize ds[i] = d at hd h1
      generalize cs[i]'(by rw [h.len]; omega) = c at hc h1 h2
      have okd : DeedOk ((xs.length + i : Nat) : Int) d := by
        have := ok.each i d hd
        rw [hm]
        have e : ((m + i : Nat) : Int) = (m : Int) + (i : Int) := by omega
        rw [e]
        exact this
      have pl : ((vals (2 ^ n) ds xs).take (xs.length + i)).length = xs.length + i := by
        rw [List.length_take, vl]
        omega
      rw [bts_next hd hc, ih (by omega), ← vals_at (i + 1) hi, vals_next hd, vals_at i (by omega), List.map_append]
      congr 1
      show [dbitAt d c _] = [bitA t (dval (2 ^ n) d _)]
      unfold dbitAt dval
      rw [arg_map _ (by rw [pl]; exact okd) (by omega), arg_map _ (by rw [pl]; exact okd) (by omega), arg_take okd (by omega) (by omega), arg_take okd (by omega) (by omega), bit_mod ht]
      rw [dbit_tells (List.mem_map.mpr ⟨_, okd.word, rfl⟩) ht (arg_nn (fun x hx => (vr x hx).1) d 0) (arg_nn (fun x hx => (vr x hx).1) d 1) h2 h1]
  have e := key ds.length (Nat.le_refl _)
  rw [List.take_length, ← h.len, List.take_length, h.len, ← vl, List.take_length] at e
  exact e
theorem cis_next {m n t : Nat} {ds : List Deed} {xs cs : List Int} (ok : DsOk m ds) (hm : xs.length = m) (m1 : 1 ≤ m) (h : CIs (vals (2 ^ n) ds xs) t ds cs) : CIs (vals (2 ^ n) ds xs) (t + 1) ds (nxt ds cs ((vals (2 ^ n) ds xs).map (bitA t))) where
  len := nxt_len h.len.symm
  each := fun k d c hd hc => by
    unfold nxt at hc
    rw [List.getElem?_zipWith, hd] at hc
    cases e : cs[k]? with
    | none => rw [e] at hc; simp at hc
    | some c0 =>
      rw [e] at hc
      obtain rfl : dcarAt d c0 ((vals (2 ^ n) ds xs).map (bitA t)) = c := by simpa using hc
      obtain ⟨h1, h2⟩ := h.each k d c0 hd e
      have kl := (List.getElem?_eq_some_iff.mp hd).1
      have okd : DeedOk (vals (2 ^ n) ds xs).length d := by
        rw [vals_len]
        refine ⟨(ok.each k d hd).word, fun i hi => ?_⟩
        have := (ok.each k d hd).ahead i hi
        omega
      have l1 : 1 ≤ (vals (2 ^ n) ds xs).length := by
        rw [vals_len]
        omega
      unfold dcarAt
      rw [arg_map _ okd l1, arg_map _ okd l1]
      refine ⟨?_, dcar_bit (bitA_bit _ _) (bitA_bit _ _) h2⟩
      rw [Int.pow_succ, Int.mul_comm]
      exact ci_next (pw_pos t) h2 h1
/-- the carry come to by the words' bits -/
def crry (ds : List Deed) (xs : List Int) : Nat → List Int
  | 0 => ds.map fcD
  | t + 1 => nxt ds (crry ds xs t) (bts ds (crry ds xs t) (xs.map (bitA t)))
theorem crry_ok {m n : Nat} {ds : List Deed} {xs : List Int} (ok : DsOk m ds) (hm : xs.length = m) (m1 : 1 ≤ m) (hx : ∀ x ∈ xs, 0 ≤ x ∧ x < 2 ^ n) : ∀ t, t ≤ n → CIs (vals (2 ^ n) ds xs) t ds (crry ds xs t)
  | 0, _ => cis_first _ ds
  | t + 1, h => by
    have ih := crry_ok ok hm m1 hx t (by omega)
    show CIs _ (t + 1) ds (nxt ds (crry ds xs t) (bts ds (crry ds xs t) (xs.map (bitA t))))
    rw [cis_bits ok hm m1 hx (by omega) ih]
    exact cis_next ok hm m1 ih
theorem crry_bits {m n t : Nat} {ds : List Deed} {xs : List Int} (ok : DsOk m ds) (hm : xs.length = m) (m1 : 1 ≤ m) (hx : ∀ x ∈ xs, 0 ≤ x ∧ x < 2 ^ n) (ht : t < n) : bts ds (crry ds xs t) (xs.map (bitA t)) = (vals (2 ^ n) ds xs).map (bitA t) :=
  cis_bits ok hm m1 hx ht (crry_ok ok hm m1 hx t (by omega))
/-! ### the carries that come -/
inductive Rch (m : Nat) (ds : List Deed) : List Int → Prop
  | first : Rch m ds (ds.map fcD)
  | next {c bs : List Int} : Rch m ds c → bs.length = m → (∀ x ∈ bs, Bit x) → Rch m ds (nxt ds c (bts ds c bs))
theorem crry_rch (ds : List Deed) (xs : List Int) : ∀ t, Rch xs.length ds (crry ds xs t)
  | 0 => .first
  | t + 1 => .next (crry_rch ds xs t) (List.length_map ..) fun x hx => by
    obtain ⟨y, _, rfl⟩ := List.mem_map.mp hx
    exact bitA_bit t y
/-- bits, none where nothing carries -/
def Shp : List Deed → List Int → Prop
  | [], [] => True
  | d :: ds, c :: cs => Bit c ∧ (d.1 ∉ twC → c = 0) ∧ Shp ds cs
  | _, _ => False
theorem Shp.len : ∀ {ds : List Deed} {cs : List Int}, Shp ds cs → cs.length = ds.length
  | [], [], _ => rfl
  | [], _ :: _, h => h.elim
  | _ :: _, [], h => h.elim
  | _ :: _, _ :: _, h => congrArg (· + 1) (Shp.len h.2.2)
theorem Shp.bits : ∀ {ds : List Deed} {cs : List Int}, Shp ds cs → ∀ c ∈ cs, Bit c
  | [], [], _ => (fun _ z => nomatch z)
  | [], _ :: _, h => h.elim
  | _ :: _, [], h => h.elim
  | _ :: _, _ :: _, h => fun c hc => by
    rcases List.mem_cons.mp hc with rfl | hc
    · exact h.1
    · exact Shp.bits h.2.2 c hc
theorem calm_first {d : Deed} (h : d.1 ∉ twC) : fcD d = 0 := by
  unfold fcD
  rw [if_neg]
  intro z
  simp only [List.mem_cons, List.not_mem_nil, or_false] at z
  simp only [twC, List.mem_cons, List.not_mem_nil, or_false, not_or] at h
  rcases z with z | z
  · exact h.2.2.2.1 z
  · exact h.2.2.2.2 z
theorem calm_car {x : Str} (h : x ∉ twC) (a b c : Int) : dcar x a b c = 0 := by
  simp only [twC, List.mem_cons, List.not_mem_nil, or_false, not_or] at h
  obtain ⟨h1, h2, h3, h4, h5⟩ := h
  unfold dcar
  rw [if_neg h4, if_neg h3, if_neg h1, if_neg h2]
theorem shp_first : ∀ ds : List Deed, Shp ds (ds.map fcD)
  | [] => trivial
  | d :: ds => ⟨(by unfold fcD; split; exact bit1; exact bit0), calm_first, shp_first ds⟩
theorem shp_nxt {told : List Int} (hb : ∀ x ∈ told, Bit x) : ∀ {ds : List Deed} {cs : List Int}, Shp ds cs → Shp ds (nxt ds cs told)
  | [], [], _ => trivial
  | [], _ :: _, h => h.elim
  | _ :: _, [], h => h.elim
  | d :: ds, c :: cs, h => ⟨dcar_bit (argAt_bit hb d 0) (argAt_bit hb d 1) h.1, fun z => calm_car z _ _ _, shp_nxt hb h.2.2⟩
theorem rch_shp {m : Nat} {ds : List Deed} : ∀ {c : List Int}, Rch m ds c → Shp ds c := by
  intro c h
  induction h with
  | first => exact shp_first ds
  | next h hl hb ih => exact shp_nxt (bts_bits hb ih.bits) ih
def univ : List Deed → List (List Int)
  | [] => [[]]
  | d :: ds => if d.1 ∈ twC then (univ ds).map (0 :: ·) ++ (univ ds).map (1 :: ·) else (univ ds).map (0 :: ·)
theorem univ_len : ∀ ds : List Deed, (univ ds).length = 2 ^ carN ds
  | [] => rfl
  | d :: ds => by
    have ih := univ_len ds
    unfold univ carN
    by_cases h : d.1 ∈ twC
    · rw [if_pos h, if_pos h, List.length_append, List.length_map, List.length_map, ih, Nat.pow_succ]
      omega
    · rw [if_neg h, if_neg h, List.length_map, ih]
      rfl
theorem shp_univ : ∀ {ds : List Deed} {cs : List Int}, Shp ds cs → cs ∈ univ ds
  | [], [], _ => List.mem_cons_self
  | [], _ :: _, h => h.elim
  | _ :: _, [], h => h.elim
  | d :: ds, c :: cs, h => by
    have ih := shp_univ h.2.2
    unfold univ
    by_cases hd : d.1 ∈ twC
    · rw [if_pos hd]
      rcases h.1 with rfl | rfl
      · exact List.mem_append_left _ (List.mem_map.mpr ⟨cs, ih, rfl⟩)
      · exact List.mem_append_right _ (List.mem_map.mpr ⟨cs, ih, rfl⟩)
    · rw [if_neg hd, h.2.1 hd]
      exact List.mem_map.mpr ⟨cs, ih, rfl⟩
theorem pigeon {α : Type} [DecidableEq α] : ∀ (l D : List α), l.Nodup → (∀ x ∈ l, x ∈ D) → l.length ≤ D.length
  | [], _, _, _ => Nat.zero_le _
  | x :: l, D, nd, h => by
    rw [List.nodup_cons] at nd
    have hx := h x List.mem_cons_self
    have ih := pigeon l (D.erase x) nd.2 fun y hy => (List.mem_erase_of_ne (fun e : y = x => nd.1 (by rw [← e]; exact hy))).mpr (h y (List.mem_cons_of_mem _ hy))
    rw [List.length_erase_of_mem hx] at ih
    have := List.length_pos_of_mem hx
    rw [List.length_cons]
    omega
/-! ### all bits -/
theorem walk_gen {J : It} {n : Nat} {G : Hp → Prop} {Y : Nat → Hp → V → Hp → Prop} (w : Walk J n G Y) {g : TG} {σ0 : L2.St} {B : (Hp → Prop) → L2.St → Hp → Prop} {H0 : Hp} {Qd : Hp → Prop} (Pv : Nat → Hp → Prop) (h0 : Pv 0 H0)
    (hG : ∀ i H, i ≤ n → Pv i H → G H) (hs : ∀ i x H H', i < n → Pv i H → Y i H x H' → g x σ0 H' fun σ2 H2 => B (Pv (i + 1)) σ2 H2) (hd : ∀ H, Pv n H → Qd H) :
    ∃ W : Nat → Nat → Hp → Prop, (∃ m, W 0 m H0) ∧ ∀ i m H, W i m H → (J.stop i H ∧ Qd H) ∨ (J.go i H ∧ ∃ Nx : Hp → Prop, (∀ H', Nx H' → ∃ m', m' < m ∧ W (i + 1) m' H') ∧ ∀ x H', J.yld i H x H' → g x σ0 H' fun σ2 H2 => B Nx σ2 H2) := by
  refine ⟨fun i m H => m = n - i ∧ i ≤ n ∧ Pv i H, ⟨n, by simp, Nat.zero_le _, h0⟩, ?_⟩
  rintro i m H ⟨rfl, hi, q⟩
  by_cases lt : i < n
  · exact .inr ⟨w.goes i H lt (hG i H hi q), Pv (i + 1), fun H' z => ⟨n - (i + 1), by omega, rfl, lt, z⟩, fun x H' y => hs i x H H' lt q (w.yields i H x H' lt (hG i H hi q) y)⟩
  · obtain rfl : i = n := by omega
    exact .inl ⟨w.stops H (hG i H hi q), hd H q⟩
def ext2 (l : List (List Int)) : List (List Int) := l.flatMap fun b => [b ++ [0], b ++ [1]]
def allB : Nat → List (List Int)
  | 0 => [[]]
  | m + 1 => ext2 (allB m)
theorem ext2_len (l : List (List Int)) : (ext2 l).length = 2 * l.length := by
  unfold ext2
  induction l with
  | nil => rfl
  | cons b l ih => rw [List.flatMap_cons, List.length_append, ih, List.length_cons]; simp; omega
theorem allB_len : ∀ m, (allB m).length = 2 ^ m
  | 0 => rfl
  | m + 1 => by
    show (ext2 (allB m)).length = _
    rw [ext2_len, allB_len m, Nat.pow_succ]
    omega
theorem allB_ok : ∀ m, ∀ bs ∈ allB m, bs.length = m ∧ ∀ x ∈ bs, Bit x
  | 0, bs, h => by
    rw [List.mem_singleton.mp h]
    exact ⟨rfl, (fun _ z => nomatch z)⟩
  | m + 1, bs, h => by
    obtain ⟨b, hb, h2⟩ := List.mem_flatMap.mp h
    obtain ⟨h3, h4⟩ := allB_ok m b hb
    simp only [List.mem_cons, List.not_mem_nil, or_false] at h2
    rcases h2 with rfl | rfl
    · refine ⟨by rw [List.length_append, h3]; rfl, fun x hx => ?_⟩
      rcases List.mem_append.mp hx with hx | hx
      · exact h4 x hx
      · rw [List.mem_singleton.mp hx]
        exact bit0
    · refine ⟨by rw [List.length_append, h3]; rfl, fun x hx => ?_⟩
      rcases List.mem_append.mp hx with hx | hx
      · exact h4 x hx
      · rw [List.mem_singleton.mp hx]
        exact bit1
theorem allB_all : ∀ m, ∀ bs : List Int, bs.length = m → (∀ x ∈ bs, Bit x) → bs ∈ allB m
  | 0, bs, h, _ => by
    rw [List.eq_nil_of_length_eq_zero h]
    exact List.mem_cons_self
  | m + 1, bs, h, hb => by
    have hne : bs ≠ [] := fun e => by rw [e] at h; simp at h
    have e := List.dropLast_concat_getLast hne
    have h1 : bs.dropLast ∈ allB m := allB_all m _ (by rw [List.length_dropLast, h]; rfl) fun x hx => hb x ((List.dropLast_sublist bs).subset hx)
    refine List.mem_flatMap.mpr ⟨_, h1, ?_⟩
    rcases hb _ (List.getLast_mem hne) with z | z
    · rw [z] at e
      exact List.mem_cons.mpr (.inl e.symm)
    · rw [z] at e
      exact List.mem_cons.mpr (.inr (List.mem_singleton.mpr e.symm))
/-- tuples of ints -/
abbrev TAt (H : Hp) : List Addr → List (List Int) → Prop := Paired fun f bs => H f = some (.tup (bs.map V.int))
theorem tat_stay {H H' : Hp} (t : TupsStay H H') {fs : List Addr} {l : List (List Int)} (h : TAt H fs l) : TAt H' fs l := awMap (fun f b e => t f _ e) h
def spAll : Sp := fun vs H Q _ => ∃ m : Nat, vs = [.int (m : Int)] ∧ m ≤ 3 ∧ ∀ H' p fs, Same H H' → H p = none → H' p = some (.lst (fs.map V.ref)) → TAt H' fs (allB m) → Q (.ref p) H'
theorem ok_all {f : Addr} {fd : FuncData} {k : Nat} (F : Fun K "all_bits" "all_bits" s_all_bits f fd) (mr : mg "range" = none) : FnOk P w K mg base CX0 (k + 1) f fd ["many"] spAll := by
  refine F.ok sc_all_bits (fun vs H Q E h => ?_) (fun cdv A outer s H vs Q E hr h => ?_)
  · obtain ⟨m, rfl, _⟩ := h
    rfl
  · obtain ⟨m, rfl, m3, q⟩ := h
    refine ⟨_, pss_cons (ps_set (i := 1) sc_all_bits.nd rfl (.inl rfl) (pe_lst (pa_cons (pe_tup pa_nil) pa_nil)))
      (pss_cons (ps_for PassesOwn.never rfl (pi_range1 (by rfl) mr (pa_cons (pv 0) pa_nil)) (pg_name (i := 2) sc_all_bits.nd rfl (.inl rfl))
        (pss_one (ps_setLc2 (i := 1) (own := [("bits", 3), ("bit", 4)]) (vs1 := [4]) (g := gName 3) (g1 := gName 4) (wi1 := iTup K (tTup (tCons (tC (.int 0)) (tCons (tC (.int 1)) tNil)))) (by rfl) sc_all_bits.nd rfl rfl (sw_true rfl rfl rfl (by decide +kernel)) (pi_list (pv 1)) (blkOk_by (own := [("bits", 3), ("bit", 4)]) (N := N_all_bits) (sc := defScope s_all_bits) (by decide +kernel)) (by decide)
          (fun _ _ _ _ _ => pg_name (i := 3) sc_all_bits.nd rfl (Or.inl rfl)) (fun _ _ _ _ _ => pts_nil) (fun _ _ _ _ _ => pi_tup (pe_tup (pa_cons pe_int (pa_cons pe_int pa_nil))))
          (fun _ _ _ _ _ => pg_name (i := 4) sc_all_bits.nd rfl (Or.inl rfl)) (fun _ _ _ _ _ => pts_nil) (fun _ _ _ _ _ => pe_op op_catZ (pv 3) (pe_tup (pa_cons (pv 4) pa_nil))))))
      (pss_one (ps_ret (pv 1)))), ?_⟩
    refine ⟨by show 0 ≤ sizeLine; decide, fun T hT => ⟨by show 1 ≤ sizeLine; decide, fun L hL => ?_⟩⟩
    have s1 := same_new (o := .tup []) hT
    have s2 := same_new (o := .lst [.ref T]) hL
    refine ⟨.int m, rfl, m, rfl, by omega, by omega, for_range (lo := 0) (n := m) (fun i σ H3 => ∃ y2 F1 fs, σ = [some (.int (m : Int)), some (.ref F1), y2, none, none] ∧ H F1 = none ∧ H3 F1 = some (.lst (fs.map V.ref)) ∧ TAt H3 fs (allB i) ∧ Same H H3) ⟨none, L, [T], rfl, s1.free hL, upd_same, .cons (s2 _ _ upd_same) .nil, s1.trans s2⟩ (fun i σ H3 hi hp => ?_) (fun σ H3 hp => ?_)⟩
    · obtain ⟨y2, F1, fs, rfl, nF, eF, hf, sm⟩ := hp
      have fl : fs.length ≤ 8 := by
        rw [awLen hf, allB_len]
        exact Nat.le_trans (Nat.pow_le_pow_right (by decide) (show i ≤ 3 by omega)) (by decide)
      refine ⟨.ref F1, rfl, F1, rfl, ⟨_, .inl (.inl eF)⟩, fun M hM => ?_⟩
      refine walk_gen (walk_list (K := K) (a := F1) (xs := fs.map V.ref)) (fun j H4 => ∃ gs, H4 M = some (.lst (gs.map V.ref)) ∧ TAt H4 gs (ext2 ((allB i).take j)) ∧ Same H3 H4) ⟨[], upd_same, .nil, same_new hM⟩ (fun j H4 _ hp => ?_) (fun j x H4 H5 hj hp hy => ?_) (fun H4 hp => ?_)
      · obtain ⟨_, _, _, s4⟩ := hp
        exact .inl (.inl (s4 _ _ eF))
      · obtain ⟨gs, eM, hg, s4⟩ := hp
        obtain ⟨rfl, hx⟩ := hy
        have hj2 : j < fs.length := by rwa [List.length_map] at hj
        have hx' : x = .ref fs[j] := by
          rw [List.getElem?_map, List.getElem?_eq_getElem hj2] at hx
          exact (Option.some.inj hx).symm
        subst hx'
        obtain ⟨b, hb1, hb2⟩ := awGet hf (List.getElem?_eq_getElem hj2)
        have bl : b.length = i := (allB_ok i b (List.mem_of_getElem? hb1)).1
        refine ⟨rfl, by show 2 ≤ sizeLine; decide, fun U hU => ?_⟩
        have sU := same_new (o := .tup [.int 0, .int 1]) hU
        refine ⟨U, rfl, ⟨_, SqT.of upd_same⟩, ?_⟩
        refine walk_gen (walk_tup (K := K) (a := U) (xs := [.int 0, .int 1])) (fun t H6 => ∃ gs, H6 M = some (.lst (gs.map V.ref)) ∧ TAt H6 gs (ext2 ((allB i).take j) ++ [b ++ [0], b ++ [1]].take t) ∧ TupsStay (upd H5 U (.tup [.int 0, .int 1])) H6 ∧ Same H3 H6) ⟨gs, sU _ _ eM, (by rw [List.take_zero, List.append_nil]; exact tat_stay (Same.tups sU) hg), (fun _ _ e => e), s4.trans sU⟩ (fun t H6 _ hp => ?_) (fun t x H6 H7 ht hp hy => ?_) (fun H6 hp => ?_)
        · obtain ⟨_, _, _, t6, _⟩ := hp
          exact SqT.of (t6 _ _ upd_same)
        · obtain ⟨gs, eM6, hg6, t6, s6⟩ := hp
          obtain ⟨rfl, hx⟩ := hy
          obtain ⟨z, rfl, hz⟩ : ∃ z : Int, x = .int z ∧ [b ++ [0], b ++ [1]].take (t + 1) = [b ++ [0], b ++ [1]].take t ++ [b ++ [z]] := by
            have ht2 : t = 0 ∨ t = 1 := by
              have : t < 2 := ht
              omega
            rcases ht2 with rfl | rfl
            · exact ⟨0, (Option.some.inj hx).symm, rfl⟩
            · exact ⟨1, (Option.some.inj hx).symm, rfl⟩
          have eb := s6 _ _ (hb2)
          refine ⟨rfl, .ref fs[j], rfl, .int z, rfl, by show 1 ≤ sizeLine; decide, fun U2 hU2 => ?_⟩
          have sU2 := same_new (o := .tup [.int z]) hU2
          refine ⟨fs[j], U2, _, _, rfl, rfl, sU2 _ _ eb, upd_same, by rw [List.length_map]; exact Nat.le_of_lt (small1000 (by show b.length + 1 ≤ 1000; omega)), fun p H8 s8 ep => ?_⟩
          have s78 := sU2.trans s8
          have eM8 := s78 _ _ eM6
          have gl := awLen hg6
          have gl2 : gs.length ≤ 18 := by
            rw [gl, List.length_append, ext2_len, List.length_take]
            have e1 : (allB i).length = fs.length := (awLen hf).symm
            have e2 : ([b ++ [0], b ++ [1]].take t).length ≤ 2 := by
              rw [List.length_take]
              exact Nat.min_le_right _ _
            omega
          have tp := tups_put (o := .lst (gs.map V.ref ++ [V.ref p])) eM8
          refine ⟨_, eM8, by rw [List.length_map]; exact small1000 (by omega), gs ++ [p], ?_, ?_, ?_, ?_⟩
          · rw [upd_same, List.map_append]
            rfl
          · rw [hz, ← List.append_assoc]
            refine tat_stay tp (awSnoc (F := fun f (bs : List Int) => H8 f = some (.tup (bs.map V.int))) ?_ (tat_stay (Same.tups s78) hg6))
            rw [ep, List.map_append]
            rfl
          · exact (t6.trans (Same.tups s78)).trans tp
          · intro c u e
            rw [upd_ne (ne_of_none e hM)]
            exact s78 c u (s6 c u e)
        · obtain ⟨gs, eM6, hg6, t6, s6⟩ := hp
          refine ⟨gs, eM6, ?_, s6⟩
          have e1 : ext2 ((allB i).take (j + 1)) = ext2 ((allB i).take j) ++ [b ++ [0], b ++ [1]] := by
            rw [List.take_add_one, hb1]
            unfold ext2
            rw [List.flatMap_append]
            rfl
          rw [e1]
          exact hg6
      · obtain ⟨gs, eM, hg, s4⟩ := hp
        refine ⟨some (.int (0 + i)), M, gs, rfl, sm.free hM, eM, ?_, sm.trans s4⟩
        rw [List.length_map, awLen hf, List.take_length] at hg
        exact hg
    · obtain ⟨y2, F1, fs, rfl, nF, eF, hf, sm⟩ := hp
      exact ⟨.ref F1, rfl, q _ F1 fs sm nF eF hf⟩
/-! ### carry_behind, steps, kept_steps -/
def spCb : Sp := fun vs H Q _ => ∃ (R C T : Addr) (m o : Int) (ds : List Deed) (cs told : List Int), vs = [.ref R, .ref C, .ref T] ∧ RowAt H R m ds o ∧ DsOk m ds ∧ ds.length ≤ 100 ∧ H C = some (.tup (cs.map V.int)) ∧ cs.length = ds.length ∧ H T = some (.tup (told.map V.int)) ∧ (told.length : Int) = m + ds.length ∧
  ∀ H' p, Same H H' → H p = none → H' p = some (.tup ((nxt ds cs told).map V.int)) → Q (.ref p) H'
theorem ok_cb {f fC : Addr} {fd fdC : FuncData} {k : Nat} (F : Fun K "carry_behind" "carry_behind" s_carry_behind f fd)
    (GC : FnOk P w K mg base CX0 (k + 2) fC fdC ["deed", "held", "told"] spDc) (kC : PySem.W.keepIn K (.ref fC) = true) (bC : Binds K fdC ["deed", "held", "told"] []) (gC : mg "deed_carry" = some (.ref fC)) (mt : mg "tuple" = none) (mz : mg "zip" = none) : FnOk P w K mg base CX0 (k + 3) f fd ["row", "carry", "told"] spCb := by
  refine F.ok sc_carry_behind (fun vs H Q E h => ?_) (fun cdv A outer s H vs Q E hr h => ?_)
  · obtain ⟨R, C, T, m, o, ds, cs, told, rfl, _⟩ := h
    rfl
  · obtain ⟨R, C, T, m, o, ds, cs, told, rfl, hrow, hok, hds, eC, hcl, eT, htl, q⟩ := h
    obtain ⟨D, rs, eR, eD, hd⟩ := id hrow
    refine ⟨_, pss_one (ps_ret (pe_callTy call_tuple_of (by rfl) mt (by decide +kernel) (pa_cons
        (pe_lc (own := [("deed", 3), ("held", 4)]) (g := gTup K 2 (gCons (gName 3) (gCons (gName 4) gNil))) (by rfl) sc_carry_behind.nd (RZ.pi_zipA (by rfl) mz (pa_cons (pe_ix ix_tup (pv 0) pe_int (fun _ _ => rfl)) (pa_cons (pv 1) pa_nil))) (blkOk_by (own := [("deed", 3), ("held", 4)]) (N := N_carry_behind) (sc := defScope s_carry_behind) (by decide +kernel))
          (fun _ _ _ _ _ => pg_tup rfl (pgs_cons (pg_name (i := 3) sc_carry_behind.nd rfl (.inl rfl)) (pgs_cons (pg_name (i := 4) sc_carry_behind.nd rfl (.inl rfl)) pgs_nil))) (fun _ _ _ _ _ => pts_nil)
          (fun _ _ _ _ _ => pe_call GC hr (by rfl) gC kC bC .nil pass0 (pa_cons (pv 3) (pa_cons (pv 4) (pa_cons (pv 2) pa_nil))))) pa_nil))), ?_⟩
    have lrs : (rs.map V.ref).length = ds.length := by rw [List.length_map, awLen hd]
    have lcs : (cs.map V.int).length = ds.length := by rw [List.length_map, hcl]
    refine ⟨.ref R, rfl, R, _, 1, .ref D, rfl, rfl, SqT.of eR, rfl, .ref C, rfl, D, C, _, _, rfl, .inr ⟨SqT.of eD, SqT.of eC, fun L hL => ?_⟩⟩
    refine lc_it (walk_zipT (K := K) (a := D) (b := C) (xs := rs.map V.ref) (ys := cs.map V.int) (lrs.trans lcs.symm)) (fun i H4 => H4 L = some (.lst (((nxt ds cs told).take i).map V.int)) ∧ Same H H4) ⟨upd_same, same_new hL⟩ (fun i H4 _ hp => ⟨SqT.of (hp.2 _ _ eD), SqT.of (hp.2 _ _ eC)⟩) (fun i x H4 H5 hi hp hy => ?_) (fun H4 hp => ?_)
    · obtain ⟨eL, sm⟩ := hp
      obtain ⟨U, x1, x2, rfl, hU, rfl, g1, g2⟩ := hy
      have hi2 : i < rs.length := by rwa [List.length_map] at hi
      have hx' : x1 = .ref rs[i] := by
        have g1' : (rs.map V.ref)[i]? = some x1 := g1
        rw [List.getElem?_map, List.getElem?_eq_getElem hi2] at g1'
        exact (Option.some.inj g1').symm
      subst hx'
      obtain ⟨d, hd1, hd2⟩ := awGet hd (List.getElem?_eq_getElem hi2)
      obtain ⟨c, hc, rfl⟩ : ∃ c, cs[i]? = some c ∧ x2 = .int c := by
        have g2' : (cs.map V.int)[i]? = some x2 := g2
        rw [List.getElem?_map] at g2'
        cases e : cs[i]? with
        | none => rw [e] at g2'; cases g2'
        | some c => rw [e] at g2'; exact ⟨c, rfl, (Option.some.inj g2').symm⟩
      have h2 : i < ds.length := by
        rw [← awLen hd]
        exact hi2
      have okd : DeedOk told.length d := okd_more (hok.each i d hd1) (by omega)
      have sU := same_new (o := .tup [.ref rs[i], .int c]) hU
      refine ⟨U, [.ref rs[i], .int c], rfl, .inl (.inl upd_same), rfl, .ref rs[i], [.int c], rfl, .int c, [], rfl, rfl, rfl, ?_⟩
      refine ⟨.ref rs[i], rfl, .int c, rfl, .ref T, rfl, rs[i], T, d, _, c, rfl, sU _ _ (sm _ _ hd2), sU _ _ (sm _ _ eT), okd, _, sU _ _ eL, ?_, ?_, ?_⟩
      · rw [List.length_map, List.length_take, nxt_len hcl.symm]
        exact small1000 (by omega)
      · rw [upd_same, nxt_next hd1 hc, List.map_append]
        rfl
      · intro b u e
        rw [upd_ne (ne_of_none e hL)]
        exact sU b u (sm b u e)
    · obtain ⟨eL, sm⟩ := hp
      rw [lrs, ← nxt_len (t := told) hcl.symm, List.take_length] at eL
      refine ⟨L, _, rfl, .inl ⟨.inl (.inl eL), fun p hp => ?_⟩⟩
      exact q _ p (sm.trans (same_new hp)) (sm.free hp) upd_same
/-- the steps of a carry: for all bits the bit of out and the next carry -/
def stp (m : Nat) (ds : List Deed) (o : Int) (cs : List Int) : List (Int × List Int) := (allB m).map fun bs => ((bts ds cs bs).getD o.toNat 0, nxt ds cs (bts ds cs bs))
theorem stp_len (m : Nat) (ds : List Deed) (o : Int) (cs : List Int) : (stp m ds o cs).length = 2 ^ m := by
  unfold stp
  rw [List.length_map, allB_len]
abbrev StAt (H : Hp) : List Addr → List (Int × List Int) → Prop := Paired fun q e => ∃ c, H q = some (.tup [.int e.1, .ref c]) ∧ H c = some (.tup (e.2.map V.int))
theorem stat_stay {H H' : Hp} (t : TupsStay H H') {ps : List Addr} {l : List (Int × List Int)} (h : StAt H ps l) : StAt H' ps l := awMap (fun q e z => z.elim fun c y => ⟨c, t _ _ y.1, t _ _ y.2⟩) h
def spSt : Sp := fun vs H Q _ => ∃ (R C : Addr) (m : Nat) (o : Int) (ds : List Deed) (cs : List Int), vs = [.ref R, .ref C] ∧ RowAt H R m ds o ∧ RowOk m ds o ∧ H C = some (.tup (cs.map V.int)) ∧ cs.length = ds.length ∧
  ∀ H' p ps, Same H H' → H p = none → H' p = some (.lst (ps.map V.ref)) → StAt H' ps (stp m ds o cs) → Q (.ref p) H'
theorem ok_st {f fA fB fC : Addr} {fd fdA fdB fdC : FuncData} {k : Nat} (F : Fun K "steps" "steps" s_steps f fd)
    (GA : FnOk P w K mg base CX0 (k + 1) fA fdA ["many"] spAll) (kA : PySem.W.keepIn K (.ref fA) = true) (bA : Binds K fdA ["many"] []) (gA : mg "all_bits" = some (.ref fA))
    (GB : FnOk P w K mg base CX0 (k + 2) fB fdB ["row", "carry", "bits"] spBo) (kB : PySem.W.keepIn K (.ref fB) = true) (bB : Binds K fdB ["row", "carry", "bits"] []) (gB : mg "bits_of" = some (.ref fB))
    (GC : FnOk P w K mg base CX0 (k + 3) fC fdC ["row", "carry", "told"] spCb) (kC : PySem.W.keepIn K (.ref fC) = true) (bC : Binds K fdC ["row", "carry", "told"] []) (gC : mg "carry_behind" = some (.ref fC)) : FnOk P w K mg base CX0 (k + 4) f fd ["row", "carry"] spSt := by
  refine F.ok sc_steps (fun vs H Q E h => ?_) (fun cdv A outer s H vs Q E hr h => ?_)
  · obtain ⟨R, C, m, o, ds, cs, rfl, _⟩ := h
    rfl
  · obtain ⟨R, C, m, o, ds, cs, rfl, hrow, hok, eC, hcl, q⟩ := h
    obtain ⟨D, rs, eR, eD, hd⟩ := id hrow
    have r1 := hr.mono (show k + 1 ≤ k + 3 by omega)
    have r2 := hr.mono (show k + 2 ≤ k + 3 by omega)
    refine ⟨_, pss_cons (ps_set (i := 2) sc_steps.nd rfl (.inl rfl) (pe_lst pa_nil))
      (pss_cons (ps_for PassesOwn.never rfl (pi_list (pe_call GA r1 (by rfl) gA kA bA .nil pass0 (pa_cons (pe_ix ix_tup (pv 0) pe_int (fun _ _ => rfl)) pa_nil))) (pg_name (i := 3) sc_steps.nd rfl (.inl rfl))
        (pss_cons (ps_set (i := 4) sc_steps.nd rfl (.inl rfl) (pe_call GB r2 (by rfl) gB kB bB .nil pass0 (pa_cons (pv 0) (pa_cons (pv 1) (pa_cons (pv 3) pa_nil)))))
        (pss_one (ps_expr (pe_bm PySem.F.plainAttrs_list PySem.F.slot_list_append PySem.F.type_list_append mt_append (pv 2) (pa_cons (pe_tup (pa_cons (pe_ix ix_tup (pv 4) (pe_ix ix_tup (pv 0) pe_int (fun _ _ => rfl)) (fun _ _ => rfl)) (pa_cons (pe_call GC hr (by rfl) gC kC bC .nil pass0 (pa_cons (pv 0) (pa_cons (pv 1) (pa_cons (pv 4) pa_nil)))) pa_nil))) pa_nil))))))
      (pss_one (ps_ret (pv 2)))), ?_⟩
    have m1 := hok.m1
    have m3 := hok.m3
    have l8 := hok.len
    refine ⟨Nat.zero_le _, fun L hL => ?_⟩
    have sL := same_new (o := .lst []) hL
    refine ⟨.ref R, rfl, R, _, 0, .int m, rfl, rfl, SqT.of (sL _ _ eR), rfl, m, rfl, by omega, fun H1 B fs s1 nB eB hf => ?_⟩
    have nLB : B ≠ L := fun z => by rw [z, upd_same] at nB; cases nB
    have fl : fs.length = 2 ^ m := by rw [awLen hf, allB_len]
    have f8 : fs.length ≤ 8 := by
      rw [fl]
      exact Nat.le_trans (Nat.pow_le_pow_right (by decide) (show m ≤ 3 by omega)) (by decide)
    have old : ∀ H5 o, Same H H5 → Same H (upd H5 L o) := fun H5 o s5 b u e => by
      rw [upd_ne (ne_of_none e hL)]
      exact s5 b u e
    refine ⟨B, rfl, ⟨_, .inl (.inl eB)⟩, for_list (K := K) (a := B) (xs := fs.map V.ref) (fun i σ H3 => ∃ y3 y4 ps, σ = [some (.ref R), some (.ref C), some (.ref L), y3, y4] ∧ H3 L = some (.lst (ps.map V.ref)) ∧ StAt H3 ps ((stp m ds o cs).take i) ∧ H3 B = some (.lst (fs.map V.ref)) ∧ TAt H3 fs (allB m) ∧ Same H H3)
      ⟨none, none, [], rfl, s1 _ _ upd_same, .nil, eB, hf, sL.trans s1⟩ (fun i σ H3 _ hp => ?_) (fun i x σ H3 hx hp => ?_) (fun σ H3 hp => ?_)⟩
    · obtain ⟨_, _, _, _, _, _, e, _⟩ := hp
      exact .inl (.inl e)
    · obtain ⟨y3, y4, ps, rfl, eL, hs, eB3, hf3, s3⟩ := hp
      have hi : i < fs.length := by
        have := (List.getElem?_eq_some_iff.mp hx).1
        rwa [List.length_map] at this
      have hx' : x = .ref fs[i] := by
        rw [List.getElem?_map, List.getElem?_eq_getElem hi] at hx
        exact (Option.some.inj hx).symm
      subst hx'
      obtain ⟨bs, hb1, hb2⟩ := awGet hf3 (List.getElem?_eq_getElem hi)
      obtain ⟨bl, bb⟩ := allB_ok m bs (List.mem_of_getElem? hb1)
      refine ⟨.ref R, rfl, .ref C, rfl, .ref fs[i], rfl, R, C, fs[i], m, o, ds, cs, bs, rfl, (Same.tups s3).row hrow, hok.deeds, by omega, s3 _ _ eC, hcl, hb2, by rw [bl], by omega, fun H4 T s4 nT eT => ?_⟩
      have tl : (bts ds cs bs).length = m + ds.length := by rw [bts_len hcl.symm, bl]
      have o0 := hok.o0
      have o1 := hok.o1
      refine ⟨.ref L, rfl, .inl ⟨rfl, _, .inl (.inl (s4 _ _ eL))⟩, .ref T, rfl, .ref R, rfl, R, _, 2, .int o, rfl, rfl, SqT.of (s4 _ _ (s3 _ _ eR)), rfl, T, _, o, _, rfl, rfl, SqT.of eT, atI_ints o0 (by omega), ?_⟩
      refine ⟨.ref R, rfl, .ref C, rfl, .ref T, rfl, R, C, T, m, o, ds, cs, _, rfl, (Same.tups (s3.trans s4)).row hrow, hok.deeds, by omega, s4 _ _ (s3 _ _ eC), hcl, eT, by rw [tl]; omega, fun H5 N s5 nN eN => ?_⟩
      refine ⟨by show 2 ≤ sizeLine; decide, fun p hp => ?_⟩
      have sp := same_new (o := .tup [.int ((bts ds cs bs).getD o.toNat 0), .ref N]) hp
      have s46 := (s4.trans s5).trans sp
      have eL6 := s46 _ _ eL
      have e1 : (stp m ds o cs)[i]? = some ((bts ds cs bs).getD o.toNat 0, nxt ds cs (bts ds cs bs)) := by
        unfold stp
        rw [List.getElem?_map, hb1]
        rfl
      have pl := awLen hs
      rw [List.length_take] at pl
      have tp := tups_put (o := .lst (ps.map V.ref ++ [V.ref p])) eL6
      refine ⟨L, _, _, rfl, rfl, eL6, ?_, some (.ref fs[i]), some (.ref T), ps ++ [p], rfl, ?_, ?_, ?_, ?_, ?_⟩
      · rw [List.length_map]
        exact small1000 (by omega)
      · rw [upd_same, List.map_append]
        rfl
      · rw [List.take_add_one, e1]
        exact stat_stay tp (awSnoc (F := fun (q : Addr) (e : Int × List Int) => ∃ c, (upd H5 p (.tup [.int ((bts ds cs bs).getD o.toNat 0), .ref N])) q = some (.tup [.int e.1, .ref c]) ∧ (upd H5 p (.tup [.int ((bts ds cs bs).getD o.toNat 0), .ref N])) c = some (.tup (e.2.map V.int))) ⟨N, upd_same, sp _ _ eN⟩ (stat_stay (Same.tups s46) hs))
      · rw [upd_ne nLB]
        exact s46 _ _ eB3
      · exact tat_stay tp (tat_stay (Same.tups s46) hf3)
      · exact old _ _ (s3.trans s46)
    · obtain ⟨y3, y4, ps, rfl, eL, hs, eB3, hf3, s3⟩ := hp
      rw [List.length_map, fl, ← stp_len m ds o cs, List.take_length] at hs
      exact ⟨.ref L, rfl, q _ L ps s3 hL eL hs⟩
/-! ### dicts by lists of ints -/
abbrev kI (c : List Int) : List Key := c.map Sum.inl
theorem kI_V (c : List Int) : (kI c).map kV = c.map V.int := by
  rw [List.map_map]
  rfl
theorem ints_inj : ∀ {a b : List Int}, a.map V.int = b.map V.int → a = b
  | [], [], _ => rfl
  | [], _ :: _, h => nomatch h
  | _ :: _, [], h => nomatch h
  | x :: a, y :: b, h => by
    rw [List.map_cons, List.map_cons, List.cons.injEq] at h
    rw [V.int.inj h.1, ints_inj h.2]
theorem kI_inj {a b : List Int} (h : kI a = kI b) : a = b := by
  have e := congrArg (List.map kV) h
  rw [kI_V, kI_V] at e
  exact ints_inj e
section tab
variable {α : Type}
def emb (f : α → V) (es : List (List Int × α)) : List (List Key × V) := es.map fun e => (kI e.1, f e.2)
def getA (es : List (List Int × α)) (c : List Int) : Option α := (es.find? fun e => decide (e.1 = c)).map (·.2)
def putA (es : List (List Int × α)) (c : List Int) (v : α) : List (List Int × α) := if c ∈ es.map (·.1) then es.map (fun e => if e.1 = c then (e.1, v) else e) else es ++ [(c, v)]
theorem emb_get (f : α → V) (c : List Int) : ∀ es : List (List Int × α), valV (emb f es) (kI c) = (getA es c).map f
  | [] => rfl
  | e :: es => by
    have ih := emb_get f c es
    unfold emb getA at *
    rw [List.map_cons, List.find?_cons]
    by_cases h : e.1 = c
    · rw [valV_pos (show (kI e.1, f e.2).1 = kI c by rw [h]), decide_eq_true h]
      rfl
    · rw [valV_neg (fun z => h (kI_inj z)), decide_eq_false h]
      exact ih
theorem getA_none {c : List Int} : ∀ {es : List (List Int × α)}, getA es c = none ↔ c ∉ es.map (·.1)
  | [] => by simp [getA]
  | e :: es => by
    have ih := getA_none (c := c) (es := es)
    unfold getA at *
    rw [List.find?_cons, List.map_cons, List.mem_cons, not_or]
    by_cases h : e.1 = c
    · simp [h]
    · rw [decide_eq_false h]
      exact ⟨fun z => ⟨fun y => h y.symm, ih.mp z⟩, fun z => ih.mpr z.2⟩
theorem getA_some {c : List Int} {v : α} {es : List (List Int × α)} (h : getA es c = some v) : (c, v) ∈ es := by
  unfold getA at h
  cases e : es.find? fun e => decide (e.1 = c) with
  | none => rw [e] at h; cases h
  | some p =>
    rw [e] at h
    have h1 := List.mem_of_find?_eq_some e
    have h2 : p.1 = c := of_decide_eq_true (List.find?_some (p := fun e : List Int × α => decide (e.1 = c)) e)
    obtain rfl : p.2 = v := Option.some.inj h
    rw [← h2]
    exact h1
theorem getA_of {c : List Int} {v : α} : ∀ {es : List (List Int × α)}, (es.map (·.1)).Nodup → (c, v) ∈ es → getA es c = some v
  | [], _, h => nomatch h
  | e :: es, nd, h => by
    rw [List.map_cons, List.nodup_cons] at nd
    unfold getA
    rw [List.find?_cons]
    rcases List.mem_cons.mp h with h | h
    · rw [← h]
      simp
    · have hne : ¬ e.1 = c := fun z => nd.1 (z ▸ List.mem_map.mpr ⟨_, h, rfl⟩)
      rw [decide_eq_false hne]
      exact getA_of nd.2 h
theorem emb_put (f : α → V) (es : List (List Int × α)) (c : List Int) (v : α) : putK (emb f es) (kI c) (f v) = emb f (putA es c v) := by
  unfold putK putA
  by_cases h : c ∈ es.map (·.1)
  · rw [if_pos h, if_pos]
    · unfold emb
      rw [List.map_map, List.map_map]
      apply List.map_congr_left
      intro e _
      show (if kI e.1 = kI c then (kI e.1, f v) else (kI e.1, f e.2)) = _
      by_cases he : e.1 = c
      · rw [if_pos (congrArg kI he)]
        simp [he]
      · rw [if_neg (fun z => he (kI_inj z))]
        simp [he]
    · rw [List.any_eq_true]
      obtain ⟨e, h1, h2⟩ := List.mem_map.mp h
      exact ⟨(kI e.1, f e.2), List.mem_map.mpr ⟨e, h1, rfl⟩, by simp [h2]⟩
  · rw [if_neg h, if_neg]
    · unfold emb
      rw [List.map_append]
      rfl
    · intro z
      rw [List.any_eq_true] at z
      obtain ⟨p, h1, h2⟩ := z
      obtain ⟨e, h3, rfl⟩ := List.mem_map.mp h1
      exact h (List.mem_map.mpr ⟨e, h3, kI_inj (of_decide_eq_true h2)⟩)
theorem putA_keys {es : List (List Int × α)} {c : List Int} {v : α} : (putA es c v).map (·.1) = if c ∈ es.map (·.1) then es.map (·.1) else es.map (·.1) ++ [c] := by
  unfold putA
  split
  · rw [List.map_map]
    apply List.map_congr_left
    intro e _
    show (if e.1 = c then (e.1, v) else e).1 = e.1
    split <;> rfl
  · rw [List.map_append]
    rfl
theorem putA_nodup {es : List (List Int × α)} {c : List Int} {v : α} (h : (es.map (·.1)).Nodup) : ((putA es c v).map (·.1)).Nodup := by
  rw [putA_keys]
  split
  · exact h
  · rename_i hn
    rw [List.nodup_append]
    refine ⟨h, by simp, fun a ha b hb => ?_⟩
    rw [List.mem_singleton.mp hb]
    exact fun z => hn (z ▸ ha)
theorem mem_putA {es : List (List Int × α)} {c : List Int} {v : α} {e : List Int × α} : e ∈ putA es c v ↔ e = (c, v) ∨ (e ∈ es ∧ e.1 ≠ c) := by
  unfold putA
  by_cases h : c ∈ es.map (·.1)
  · rw [if_pos h, List.mem_map]
    constructor
    · rintro ⟨a, h1, rfl⟩
      by_cases ha : a.1 = c
      · rw [if_pos ha, ha]
        exact .inl rfl
      · rw [if_neg ha]
        exact .inr ⟨h1, ha⟩
    · rintro (rfl | ⟨h1, h2⟩)
      · obtain ⟨a, h1, h2⟩ := List.mem_map.mp h
        exact ⟨a, h1, by rw [if_pos h2, h2]⟩
      · exact ⟨e, h1, if_neg h2⟩
  · rw [if_neg h, List.mem_append, List.mem_singleton]
    constructor
    · rintro (h1 | h1)
      · exact .inr ⟨h1, fun z => h (z ▸ List.mem_map.mpr ⟨e, h1, rfl⟩)⟩
      · exact .inl h1
    · rintro (h1 | h1)
      · exact .inr h1
      · exact .inl h1.1
end tab
/-- few: all keys are bits, as many as there are deeds -/
theorem few_keys {α : Type} {n : Nat} {es : List (List Int × α)} (nd : (es.map (·.1)).Nodup) (hb : ∀ e ∈ es, e.1.length = n ∧ ∀ x ∈ e.1, Bit x) (hn : n ≤ 8) : es.length ≤ 256 := by
  have h := pigeon (es.map (·.1)) (allB n) nd fun c hc => by
    obtain ⟨e, he, rfl⟩ := List.mem_map.mp hc
    exact allB_all n _ (hb e he).1 (hb e he).2
  rw [List.length_map, allB_len] at h
  exact Nat.le_trans h (Nat.le_trans (Nat.pow_le_pow_right (by decide) hn) (by decide))
/-! ### tables of 2 ^ e slots: from each hash each slot is met -/
def sumF : Nat → Nat
  | 0 => 0
  | n + 1 => 5 * sumF n + 1
theorem sumF_pow : ∀ n, 4 * sumF n + 1 = 5 ^ n
  | 0 => rfl
  | n + 1 => by
    have ih := sumF_pow n
    rw [Nat.pow_succ, ← ih]
    show 4 * (5 * sumF n + 1) + 1 = _
    omega
theorem sumF_add (a : Nat) : ∀ d, sumF (a + d) = 5 ^ a * sumF d + sumF a
  | 0 => by simp [sumF]
  | d + 1 => by
    show 5 * sumF (a + d) + 1 = 5 ^ a * (5 * sumF d + 1) + sumF a
    have ih := sumF_add a d
    have z := sumF_pow a
    have m : 5 ^ a * (5 * sumF d + 1) = 5 * (5 ^ a * sumF d) + 5 ^ a := by rw [Nat.mul_add, Nat.mul_one, Nat.mul_left_comm]
    omega
theorem sumF_two (e : Nat) : sumF (e + e) = 2 * (sumF e * (2 * sumF e + 1)) := by
  rw [sumF_add, ← sumF_pow e, Nat.add_mul, Nat.mul_assoc, Nat.one_mul, Nat.mul_add, Nat.mul_one, Nat.mul_left_comm (sumF e) 2]
  omega
theorem sumF_odd : ∀ n, sumF n % 2 = n % 2
  | 0 => rfl
  | n + 1 => by
    have ih := sumF_odd n
    show (5 * sumF n + 1) % 2 = _
    omega
theorem odd_cop (k x : Nat) : Nat.Coprime (2 ^ k) (2 * x + 1) := by
  apply Nat.Coprime.pow_left
  show Nat.gcd 2 (2 * x + 1) = 1
  have z : (2 * x + 1) % 2 = 1 := by omega
  rw [Nat.gcd_rec, z]
  rfl
theorem sumF_dvd : ∀ k d, 2 ^ k ∣ sumF d → 2 ^ k ∣ d
  | 0, d, _ => ⟨d, by simp⟩
  | k + 1, d, h => by
    have h2 : 2 ∣ sumF d := Nat.dvd_trans ⟨2 ^ k, by rw [Nat.pow_succ, Nat.mul_comm]⟩ h
    have z := sumF_odd d
    obtain ⟨e, rfl⟩ : ∃ e, d = e + e := ⟨d / 2, by omega⟩
    rw [sumF_two, Nat.pow_succ, Nat.mul_comm (2 ^ k)] at h
    have h3 := Nat.Coprime.dvd_of_dvd_mul_right (odd_cop k (sumF e)) (Nat.dvd_of_mul_dvd_mul_left (by decide) h)
    obtain ⟨c, z2⟩ := sumF_dvd k e h3
    exact ⟨c, by rw [Nat.pow_succ, Nat.mul_comm (2 ^ k), Nat.mul_assoc, ← z2]; omega⟩
theorem pow_sumF : ∀ k, 2 ^ k ∣ sumF (2 ^ k)
  | 0 => ⟨1, rfl⟩
  | k + 1 => by
    have z : 2 ^ (k + 1) = 2 ^ k + 2 ^ k := by rw [Nat.pow_succ]; omega
    have z2 : sumF (2 ^ (k + 1)) = 2 * (sumF (2 ^ k) * (2 * sumF (2 ^ k) + 1)) := by rw [z, sumF_two]
    obtain ⟨c, hc⟩ := pow_sumF k
    rw [z2]
    refine ⟨c * (2 * sumF (2 ^ k) + 1), ?_⟩
    rw [Nat.pow_succ, Nat.mul_comm (2 ^ k) 2, Nat.mul_assoc, ← Nat.mul_assoc (2 ^ k), ← hc]
theorem lcg_sumF (m : Nat) : ∀ n, lcgN m n = sumF n % (m + 1)
  | 0 => (Nat.zero_mod _).symm
  | n + 1 => by
    show (lcgN m n * 5 + 1) % (m + 1) = (5 * sumF n + 1) % (m + 1)
    rw [lcg_sumF m n, Nat.mul_comm 5, Nat.add_mod, Nat.mul_mod, Nat.mod_mod, ← Nat.mul_mod, ← Nat.add_mod]
/-- so many slots -/
def M2 (m : Nat) : Prop := ∃ e, m + 1 = 2 ^ (e + 1)
theorem M2.odd {m : Nat} (h : M2 m) : m % 2 = 1 := by
  obtain ⟨e, z⟩ := h
  rw [Nat.pow_succ] at z
  omega
theorem lcg_apart {m : Nat} (h : M2 m) (a : Nat) {d : Nat} (h0 : 0 < d) (h1 : d ≤ m) : lcgN m a ≠ lcgN m (a + d) := by
  obtain ⟨e, z⟩ := h
  intro q
  rw [lcg_sumF, lcg_sumF, z] at q
  have q2 := Nat.sub_mod_eq_zero_of_mod_eq q.symm
  rw [sumF_add, Nat.add_sub_cancel] at q2
  have q3 := Nat.Coprime.dvd_of_dvd_mul_left (Nat.Coprime.pow (e + 1) a (by decide : Nat.Coprime 2 5)) (Nat.dvd_of_mod_eq_zero q2)
  have q4 := Nat.le_of_dvd h0 (sumF_dvd _ _ q3)
  omega
theorem lcg_le (m : Nat) : ∀ n, lcgN m n ≤ m
  | 0 => Nat.zero_le _
  | _ + 1 => Nat.le_of_lt_succ (Nat.mod_lt _ (Nat.succ_pos _))
theorem lcg_some {m : Nat} (h : M2 m) {j : Nat} (hj : j ≤ m) : ∃ b, b ≤ m ∧ lcgN m b = j := by
  apply Classical.byContradiction
  intro no
  have nd : (j :: (List.range (m + 1)).map (lcgN m)).Nodup := by
    refine List.nodup_cons.mpr ⟨fun z => ?_, ?_⟩
    · obtain ⟨b, hb, e⟩ := List.mem_map.mp z
      exact no ⟨b, Nat.le_of_lt_succ (List.mem_range.mp hb), e⟩
    · refine List.pairwise_map.mpr (List.Pairwise.imp_of_mem (fun {a b} _ hb lt e => ?_) List.pairwise_lt_range)
      have hb2 := List.mem_range.mp hb
      exact lcg_apart h a (d := b - a) (by omega) (by omega) (by rw [show a + (b - a) = b by omega]; exact e)
  have big := nat_nodup_len _ (List.range (m + 1)) nd fun x hx => by
    rcases List.mem_cons.mp hx with rfl | hx
    · exact List.mem_range.mpr (by omega)
    · obtain ⟨b, _, rfl⟩ := List.mem_map.mp hx
      exact List.mem_range.mpr (Nat.lt_succ_of_le (lcg_le m b))
  simp only [List.length_cons, List.length_map, List.length_range] at big
  omega
theorem lcg_back {m : Nat} (h : M2 m) : ∀ n, lcgN m (m + 1 + n) = lcgN m n
  | 0 => by
    obtain ⟨e, z⟩ := h
    rw [Nat.add_zero, lcg_sumF, z]
    exact Nat.mod_eq_zero_of_dvd (pow_sumF _)
  | n + 1 => by
    have ih := lcg_back h n
    show (lcgN m (m + 1 + n) * 5 + 1) % (m + 1) = (lcgN m n * 5 + 1) % (m + 1)
    rw [ih]
theorem lcg_from {m : Nat} (h : M2 m) {i j : Nat} (hi : i ≤ m) (hj : j ≤ m) : ∃ n, n ≤ m ∧ lcgI m i n = j := by
  obtain ⟨a, a1, rfl⟩ := lcg_some h hi
  obtain ⟨b, b1, rfl⟩ := lcg_some h hj
  by_cases c : a ≤ b
  · exact ⟨b - a, by omega, by rw [lcgN_add, show a + (b - a) = b by omega]⟩
  · exact ⟨m + 1 + b - a, by omega, by rw [lcgN_add, show a + (m + 1 + b - a) = m + 1 + b by omega, lcg_back h]⟩
theorem run_at {m : Nat} (h : M2 m) (z : Int) {j : Nat} (hj : j ≤ m) : ∃ n, n ≤ m + 12 ∧ runI m (SetTable.bits z) n = j := by
  obtain ⟨n, n1, n2⟩ := lcg_from h (runI_le m (SetTable.bits z) 12) hj
  refine ⟨12 + n, by omega, ?_⟩
  rw [runI_tail (bits_lt z), n2]
/-- of so many runs one begins at a slot out of a list no longer -/
theorem run_out {m : Nat} (h : M2 m) (z : Int) (l : List Nat) (hl : l.length ≤ m) : ∃ n, n ≤ 12 + l.length ∧ runI m (SetTable.bits z) n ∉ l := by
  apply Classical.byContradiction
  intro no
  have all : ∀ n, n ≤ l.length → lcgI m (runI m (SetTable.bits z) 12) n ∈ l := fun n hn => by
    apply Classical.byContradiction
    intro c
    exact no ⟨12 + n, by omega, by rw [runI_tail (bits_lt z)]; exact c⟩
  obtain ⟨a, _, ea⟩ := lcg_some h (runI_le m (SetTable.bits z) 12)
  rw [← ea] at all
  have nd : ((List.range (l.length + 1)).map fun n => lcgI m (lcgN m a) n).Nodup := by
    refine List.pairwise_map.mpr (List.Pairwise.imp_of_mem (fun {x y} _ hy lt e => ?_) List.pairwise_lt_range)
    have hy2 := List.mem_range.mp hy
    rw [lcgN_add, lcgN_add] at e
    exact lcg_apart h (a + x) (d := y - x) (by omega) (by omega) (by rw [show a + x + (y - x) = a + y by omega]; exact e)
  have big := nat_nodup_len _ l nd fun x hx => by
    obtain ⟨n, hn, rfl⟩ := List.mem_map.mp hx
    exact all n (Nat.le_of_lt_succ (List.mem_range.mp hn))
  rw [List.length_map, List.length_range] at big
  omega
/-- each entry is found again from its hash -/
structure TabG (t : SetTable) (hs : List Int) : Prop where
  up : Ris t.place.toList
  nodm : t.dummies = #[]
  len : t.place.size = hs.length
  two : M2 t.mask
  within : ∀ x ∈ t.place.toList, x ≤ t.mask
  back : ∀ (i : Nat) (z : Int) (j : Nat), hs[i]? = some z → t.place.toList[i]? = some j → ∃ n, way t.mask z n = j ∧ ∀ n', n' < n → way t.mask z n' ∈ t.place.toList
theorem way_in (m : Nat) (z : Int) (n : Nat) : way m z n ≤ m := by
  have b := runEnd_bd (m := m) (i := SetTable.bits z % (m + 1)) (Nat.le_of_lt_succ (Nat.mod_lt _ (Nat.succ_pos _)))
  have c := nth_in (m := m) n (runAt m (SetTable.bits z % (m + 1)) (SetTable.bits z)) (by
    show SetTable.bits z % (m + 1) + (SetTable.runEnd m (SetTable.bits z % (m + 1)) - SetTable.bits z % (m + 1)) ≤ m
    omega)
  exact Nat.le_trans (Nat.le_add_right _ _) c
theorem TabG.free {t : SetTable} {hs : List Int} (T : TabG t hs) (hl : hs.length ≤ t.mask) (z : Int) : ∃ N, N ≤ 10 * (12 + hs.length) ∧ N < 10 * SetTable.turns t.mask ∧ way t.mask z N ∉ t.place.toList ∧ ∀ n, n < N → way t.mask z n ∈ t.place.toList := by
  have hlen : t.place.toList.length = hs.length := by
    rw [Array.length_toList, T.len]
  obtain ⟨n, n1, n2⟩ := run_out T.two z t.place.toList (by omega)
  obtain ⟨k, k1, k2⟩ := run_nth t.mask (SetTable.bits z) n
  have out : way t.mask z k ∉ t.place.toList := by
    show (nth t.mask (runAt t.mask (SetTable.bits z % (t.mask + 1)) (SetTable.bits z)) k).j ∉ _
    rw [k2]
    exact n2
  obtain ⟨N, a1, a2, a3⟩ := st_least (p := fun n => way t.mask z n ∉ t.place.toList) k out
  refine ⟨N, by omega, by unfold SetTable.turns; omega, a2, fun n hn => ?_⟩
  exact Classical.byContradiction fun c => a3 n hn c
theorem TabG.ahead {t : SetTable} {hs : List Int} (T : TabG t hs) {z : Int} {N i j : Nat} (n0 : way t.mask z N ∉ t.place.toList) (hi : hs[i]? = some z) (hj : t.place.toList[i]? = some j) : ∃ n, n < N ∧ way t.mask z n = j := by
  obtain ⟨n, e, b⟩ := T.back i z j hi hj
  have hm := List.mem_of_getElem? hj
  refine ⟨n, ?_, e⟩
  apply Classical.byContradiction
  intro c
  rcases Nat.eq_or_lt_of_le (Nat.le_of_not_lt c) with c | c
  · rw [c, e] at n0
    exact n0 hm
  · exact n0 (b N c)
/-- one more entry at the first free slot -/
theorem TabG.put {t : SetTable} {hs : List Int} (T : TabG t hs) {z : Int} {N : Nat} (n0 : way t.mask z N ∉ t.place.toList) (n1 : ∀ n, n < N → way t.mask z n ∈ t.place.toList) :
    ∃ p t1, t.put (way t.mask z N) = (t1, p) ∧ p ≤ hs.length ∧ TabG t1 (hs.take p ++ z :: hs.drop p) ∧ t1.mask = t.mask ∧ t1.led = t.led ∧ t1.plain = t.plain ∧ t1.fill = hs.length + 1 := by
  have jm := way_in t.mask z N
  obtain ⟨j, ej⟩ : ∃ j, j = way t.mask z N := ⟨_, rfl⟩
  rw [← ej] at n0 jm ⊢
  have pl : SetTable.below t.place j ≤ t.place.toList.length := by
    rw [Array.length_toList]
    exact (below_cut T.up j).1
  have len : t.place.toList.length = hs.length := by
    rw [Array.length_toList, T.len]
  have ph : SetTable.below t.place j ≤ hs.length := len ▸ pl
  have pp := put_place t j
  have old : ∀ x, x ∈ t.place.toList → x ∈ (t.put j).1.place.toList := fun x hx => by
    rw [pp]
    exact mem_ins.mpr (.inr hx)
  have sz : (t.put j).1.place.size = hs.length + 1 := by
    rw [← Array.length_toList, pp, len_ins _ pl, len]
  have dm := put_dm T.nodm j
  refine ⟨SetTable.below t.place j, (t.put j).1, rfl, ph, ⟨?_, dm, ?_, T.two, fun x hx => ?_, fun i z' j' hi hj => ?_⟩, rfl, rfl, rfl, ?_⟩
  · refine ris_insert T.up fun e => n0 (List.mem_of_getElem? (i := SetTable.below t.place j) ?_)
    rw [Array.getElem?_toList]
    exact e
  · rw [len_ins _ ph]
    exact sz
  · show x ≤ t.mask
    rw [pp] at hx
    rcases mem_ins.mp hx with e | hx
    · exact e ▸ jm
    · exact T.within x hx
  · show ∃ n, way t.mask z' n = j' ∧ _
    rw [tins_get hs ph] at hi
    rw [pp, tins_get _ pl] at hj
    by_cases c : i < SetTable.below t.place j
    · rw [if_pos c] at hi hj
      obtain ⟨n, e, b⟩ := T.back i z' j' hi hj
      exact ⟨n, e, fun n' hn => old _ (b n' hn)⟩
    rw [if_neg c] at hi hj
    by_cases d : i = SetTable.below t.place j
    · rw [if_pos d] at hi hj
      cases hi
      cases hj
      exact ⟨N, ej.symm, fun n' hn => old _ (n1 n' hn)⟩
    · rw [if_neg d] at hi hj
      obtain ⟨n, e, b⟩ := T.back (i - 1) z' j' hi hj
      exact ⟨n, e, fun n' hn => old _ (b n' hn)⟩
  · show (t.put j).1.place.size + (t.put j).1.dummies.size = _
    rw [sz, dm]
    rfl
/-! ### laid anew at any such size -/
theorem free_at {m : Nat} (h : M2 m) (owner : Array (Option Nat)) (z : Int) {j : Nat} (hj : j ≤ m) (e : oAt owner j = none) :
    ∃ N, SetTable.layClean.free m owner (SetTable.turns m) (SetTable.bits z % (m + 1)) (SetTable.bits z) = some (way m z N) ∧ oAt owner (way m z N) = none ∧ ∀ n, n < N → (oAt owner (way m z n)).isNone = false := by
  obtain ⟨r, r1, r2⟩ := run_at h z hj
  obtain ⟨n0, e0⟩ : ∃ n0, n0 = off m (SetTable.bits z % (m + 1)) (SetTable.bits z) r := ⟨_, rfl⟩
  have here : way m z n0 = j := by
    show (nth m _ n0).j = j
    rw [e0, nth_off, itL_run, ← r2]
    rfl
  obtain ⟨N, a1, a2, a3⟩ := st_least (p := fun n => oAt owner (way m z n) = none) n0 (by rw [here]; exact e)
  have full : ∀ n, n < N → (oAt owner (way m z n)).isNone = false := fun n hn => by
    cases c : oAt owner (way m z n) with
    | none => exact absurd c (a3 n hn)
    | some _ => rfl
  refine ⟨N, free_spec m owner _ r _ _ N (by unfold SetTable.turns; omega) (e0 ▸ a1) full ?_, a2, full⟩
  show (oAt owner (way m z N)).isNone = true
  rw [a2]
  rfl
structure Laid (m : Nat) (done : List Int) (owner : Array (Option Nat)) : Prop where
  size : owner.size = m + 1
  who : ∀ j k, j ≤ m → oAt owner j = some k → ∃ z N, done[k]? = some z ∧ way m z N = j ∧ ∀ n, n < N → (oAt owner (way m z n)).isNone = false
  has : ∀ k, k < done.length → ∃ j, j ≤ m ∧ oAt owner j = some k
  taken : ∃ ps : List Nat, ps.length = done.length ∧ ∀ j, j ≤ m → (oAt owner j).isNone = false → j ∈ ps
theorem Laid.zero (m : Nat) : Laid m [] (Array.replicate (m + 1) none) := by
  refine ⟨by simp, fun j k hj e => ?_, fun k hk => absurd hk (Nat.not_lt_zero _), [], rfl, fun j hj e => ?_⟩
  · rw [oAt_init hj] at e
    cases e
  · rw [oAt_init hj] at e
    cases e
theorem Laid.more {m : Nat} (h : M2 m) {done : List Int} {owner : Array (Option Nat)} (W : Laid m done owner) (hl : done.length ≤ m) (z : Int) :
    ∃ j, SetTable.layClean.free m owner (SetTable.turns m) (SetTable.bits z % (m + 1)) (SetTable.bits z) = some j ∧ Laid m (done ++ [z]) (owner.setIfInBounds j (some done.length)) := by
  obtain ⟨ps, p1, p2⟩ := W.taken
  obtain ⟨i, i1, i2⟩ := st_missing ps (m + 1) (by omega)
  have ie : oAt owner i = none := by
    cases c : oAt owner i with
    | none => rfl
    | some _ => exact absurd (p2 i (by omega) (by rw [c]; rfl)) i2
  obtain ⟨N, f1, f2, f3⟩ := free_at h owner z (by omega) ie
  have jm := way_in m z N
  refine ⟨way m z N, f1, ?_⟩
  have here : oAt (owner.setIfInBounds (way m z N) (some done.length)) (way m z N) = some done.length := oAt_set_self _ (by rw [W.size]; omega)
  have up : ∀ x, (oAt owner x).isNone = false → (oAt (owner.setIfInBounds (way m z N) (some done.length)) x).isNone = false := fun x hx => by
    by_cases c : x = way m z N
    · rw [c, here]
      rfl
    · rw [oAt_set_ne _ c]
      exact hx
  refine ⟨by rw [Array.size_setIfInBounds]; exact W.size, fun j k hj e => ?_, fun k hk => ?_, way m z N :: ps, by simp [p1], fun j hj e => ?_⟩
  · by_cases c : j = way m z N
    · rw [c, here] at e
      obtain rfl := Option.some.inj e
      exact ⟨z, N, by simp, c.symm, fun n hn => up _ (f3 n hn)⟩
    · rw [oAt_set_ne _ c] at e
      obtain ⟨z', N', b1, b2, b3⟩ := W.who j k hj e
      refine ⟨z', N', ?_, b2, fun n hn => up _ (b3 n hn)⟩
      rw [List.getElem?_append_left (List.getElem?_eq_some_iff.mp b1).1, b1]
  · by_cases c : k < done.length
    · obtain ⟨j, hj, e⟩ := W.has k c
      exact ⟨j, hj, by rw [oAt_set_ne _ fun q => by rw [q, f2] at e; cases e]; exact e⟩
    · have : k = done.length := by rw [List.length_append, List.length_singleton] at hk; omega
      exact ⟨way m z N, jm, by rw [this]; exact here⟩
  · by_cases c : j = way m z N
    · exact c ▸ List.mem_cons_self
    · rw [oAt_set_ne _ c] at e
      exact List.mem_cons_of_mem _ (p2 j hj e)
theorem Laid.fold {m : Nat} (h : M2 m) : ∀ (rest done : List Int) (owner : Array (Option Nat)), Laid m done owner → done.length + rest.length ≤ m → ∃ owner', rest.foldl (stepF m) (some (owner, done.length)) = some (owner', (done ++ rest).length) ∧ Laid m (done ++ rest) owner'
  | [], done, owner, W, _ => by
    rw [List.append_nil]
    exact ⟨owner, rfl, W⟩
  | z :: rest, done, owner, W, hl => by
    rw [List.length_cons] at hl
    obtain ⟨j, e, W2⟩ := W.more h (by omega) z
    have l2 : (done ++ [z]).length = done.length + 1 := by simp
    obtain ⟨owner', f, W3⟩ := Laid.fold h rest (done ++ [z]) _ W2 (by omega)
    rw [List.append_assoc, List.singleton_append] at f W3
    exact ⟨owner', by rw [List.foldl_cons, stepF_some e, ← l2]; exact f, W3⟩
theorem relaid_two (t : SetTable) {hs : Array Int} {wanted M : Nat} (hw : SetTable.sizeAbove wanted = M + 1) (hM : M2 M) (hn : hs.size ≤ M) :
    ∃ t' order, t.relaid hs wanted = some (t', order) ∧ order.toList.Perm (List.range hs.size) ∧ TabG t' (order.toList.map fun i => hs.getD i 0) ∧ t'.mask = M ∧ t'.led = t.led ∧ t'.plain = t.plain := by
  have hw2 : SetTable.sizeAbove wanted - 1 = M := by omega
  obtain ⟨owner, f, W⟩ := Laid.fold hM hs.toList [] _ (Laid.zero M) (by show 0 + hs.toList.length ≤ M; rw [Array.length_toList]; omega)
  rw [List.nil_append] at f W
  have clean : SetTable.layClean M hs = some owner := by
    rw [layClean_eq]
    rw [show some (Array.replicate (M + 1) (none : Option Nat), 0) = some (Array.replicate (M + 1) none, ([] : List Int).length) from rfl, f]
    rfl
  have inl : ∀ {j k : Nat}, (j, k) ∈ liveOf M owner ↔ j ≤ M ∧ oAt owner j = some k := fun {j k} => mem_live W.size
  have r := ris_live (fun j => owner.getD j none) (List.range (M + 1)) (by
    unfold Ris
    exact List.pairwise_lt_range)
  have r1 : Ris ((liveOf M owner).map (·.1)) := r.1
  have lenL : (liveOf M owner).length = hs.size := by
    obtain ⟨ps, p1, p2⟩ := W.taken
    have nd : ((liveOf M owner).map (·.1)).Nodup := List.Pairwise.imp (fun z => Nat.ne_of_lt z) r1
    have q1 := nat_nodup_len ((liveOf M owner).map (·.1)) ps nd fun x hx => by
      obtain ⟨⟨y, k⟩, hq, rfl⟩ := List.mem_map.mp hx
      obtain ⟨b1, b2⟩ := inl.mp hq
      exact p2 y b1 (by rw [b2]; rfl)
    have q2 := nat_nodup_len (List.range hs.size) ((liveOf M owner).map (·.2)) List.nodup_range fun k hk => by
      obtain ⟨j, b1, b2⟩ := W.has k (List.mem_range.mp hk)
      exact List.mem_map.mpr ⟨(j, k), inl.mpr ⟨b1, b2⟩, rfl⟩
    rw [List.length_map, p1, Array.length_toList (xs := hs)] at q1
    rw [List.length_map, List.length_range] at q2
    omega
  refine ⟨tabOf t M owner, ((liveOf M owner).map (·.2)).toArray, by rw [relaid_eq, hw2, clean]; rfl, perm_range _ _ ?_ fun k hk => ?_, ⟨r1, rfl, ?_, hM, fun x hx => ?_, fun i z j hi hj => ?_⟩, rfl, rfl, rfl⟩
  · show ((liveOf M owner).map (·.2)).length = _
    rw [List.length_map, lenL]
  · obtain ⟨j, b1, b2⟩ := W.has k (by rw [Array.length_toList]; exact hk)
    exact List.mem_map.mpr ⟨(j, k), inl.mpr ⟨b1, b2⟩, rfl⟩
  · show ((liveOf M owner).map (·.1)).toArray.size = (((liveOf M owner).map (·.2)).map _).length
    simp
  · obtain ⟨⟨y, k⟩, hq, rfl⟩ := List.mem_map.mp (show x ∈ (liveOf M owner).map (·.1) from hx)
    exact (inl.mp hq).1
  · replace hi : (((liveOf M owner).map (·.2)).map fun i => hs.getD i 0)[i]? = some z := hi
    replace hj : ((liveOf M owner).map (·.1))[i]? = some j := hj
    rw [List.getElem?_map, List.getElem?_map] at hi
    rw [List.getElem?_map] at hj
    cases hq : (liveOf M owner)[i]? with
    | none =>
      rw [hq] at hj
      cases hj
    | some q =>
      obtain ⟨y, k⟩ := q
      rw [hq] at hi hj
      obtain rfl : y = j := Option.some.inj hj
      obtain rfl : hs.getD k 0 = z := Option.some.inj hi
      obtain ⟨b1, b2⟩ := inl.mp (List.mem_of_getElem? hq)
      obtain ⟨z0, N, c1, c2, c3⟩ := W.who y k b1 b2
      have e0 : hs.getD k 0 = z0 := by
        rw [Array.getD_eq_getD_getElem?, ← Array.getElem?_toList, c1]
        rfl
      rw [e0]
      refine ⟨N, c2, fun n hn => ?_⟩
      show way M z0 n ∈ (liveOf M owner).map (·.1)
      have full := c3 n hn
      cases c : oAt owner (way M z0 n) with
      | none =>
        rw [c] at full
        cases full
      | some k2 => exact List.mem_map.mpr ⟨(way M z0 n, k2), inl.mpr ⟨way_in M z0 n, c⟩, rfl⟩
theorem size_go (n : Nat) : ∀ (f e : Nat), ∃ e', SetTable.sizeAbove.go n f (2 ^ (e + 1)) = 2 ^ (e' + 1) ∧ (n < 2 ^ (e + 1 + f) → n < 2 ^ (e' + 1)) ∧ 2 ^ (e' + 1) ≤ max (2 ^ (e + 1)) (2 * n)
  | 0, e => ⟨e, rfl, fun z => z, Nat.le_max_left _ _⟩
  | f + 1, e => by
    have two : 2 ^ (e + 1) * 2 = 2 ^ (e + 1 + 1) := (Nat.pow_succ ..).symm
    unfold SetTable.sizeAbove.go
    by_cases c : 2 ^ (e + 1) ≤ n
    · rw [if_pos c, two]
      obtain ⟨e', a1, a2, a3⟩ := size_go n f (e + 1)
      refine ⟨e', a1, fun z => a2 (by rw [show e + 1 + 1 + f = e + 1 + (f + 1) by omega]; exact z), ?_⟩
      omega
    · rw [if_neg c]
      exact ⟨e, rfl, fun _ => by omega, Nat.le_max_left _ _⟩
theorem size_two {n : Nat} (h : n < 2 ^ 60) : ∃ M, SetTable.sizeAbove n = M + 1 ∧ M2 M ∧ n ≤ M ∧ M + 1 ≤ max 8 (2 * n) := by
  obtain ⟨e, a1, a2, a3⟩ := size_go n 64 2
  have pos : 0 < 2 ^ (e + 1) := Nat.pow_pos (by decide)
  have a4 := a2 (Nat.lt_trans h (by decide))
  refine ⟨2 ^ (e + 1) - 1, ?_, ⟨e, by omega⟩, by omega, by omega⟩
  show SetTable.sizeAbove.go n 64 8 = _
  rw [show (8 : Nat) = 2 ^ (2 + 1) from rfl, a1]
  omega
/-! ### keys of numbers within one another: hashed by value, of no class statement -/
mutual
def onlyN : NestedKey → Bool
  | .num _ => true
  | .tup ks => onlyNs ks
  | .none => false
  | .text _ => false
def onlyNs : List NestedKey → Bool
  | [] => true
  | k :: ks => onlyN k && onlyNs ks
end
section byvalue
variable {P : Program} {w : World}
def HashV (P : Program) (w : World) (n : Nat) (s : Shared) (v : Value) : Prop := ∀ (A : Around) (E : Value → Shared → Prop) (Q : Bool → Shared → Prop), Q true s → wpAny (model P w) A (hashByValue n v) Q E s
def NoStm (P : Program) (w : World) (n : Nat) (s : Shared) (v : Value) : Prop := ∀ (A : Around) (E : Value → Shared → Prop) (Q : Bool → Shared → Prop), Q false s → wpAny (model P w) A (ofAClassStatement n v) Q E s
theorem HashV.tuple {n : Nat} {s : Shared} {a : Addr} {o : Obj} {vs : Array Value} {m : Nat} (ho : s.heap.get? a = some o) (hc : o.cls = .type "tuple") (hd : o.data = .seq vs m) (hq : ∀ v ∈ vs.toList, HashV P w n s v) : HashV P w (n + 1) s (.ref a) := fun A E Q q => by
  unfold hashByValue
  apply wpAny_bind
  refine wpAny_specialOf ⟨o, ho, hc⟩ F.slot_tuple_hash.lookup ?_
  show wpAny _ _ (seqItems? (.ref a) >>= _) _ _ s
  apply wpAny_bind
  refine wpAny_seqItems ho hd ?_
  apply wpAny_bind
  show wpAny _ _ (forIn vs _ _) _ _ s
  rw [← Array.forIn_toList]
  refine wpAny_forIn_list _ (fun left r s' => (r.1 = none ∧ s' = s) ∧ ∀ v ∈ left, HashV P w n s v) _ ?_ ?_ _ _ ⟨⟨rfl, rfl⟩, hq⟩
  · rintro v left r s' ⟨⟨hr, rfl⟩, all⟩
    apply wpAny_bind
    refine all v List.mem_cons_self _ _ _ ?_
    simp only [Bool.not_true, Bool.false_eq_true, if_false]
    exact wpAny_pure ⟨⟨rfl, rfl⟩, fun u hu => all u (List.mem_cons_of_mem _ hu)⟩
  · rintro ⟨r1, r2⟩ s' ⟨⟨hr, rfl⟩, _⟩
    cases hr
    exact wpAny_pure q
theorem NoStm.tuple {n : Nat} {s : Shared} {a : Addr} {o : Obj} {vs : Array Value} {m : Nat} (ho : s.heap.get? a = some o) (hc : o.cls = .type "tuple") (hd : o.data = .seq vs m) (hq : ∀ v ∈ vs.toList, NoStm P w n s v) : NoStm P w (n + 1) s (.ref a) := fun A E Q q => by
  unfold ofAClassStatement
  apply wpAny_bind
  refine wpAny_typeOf ⟨o, ho, hc⟩ ?_
  dsimp only
  have tt : (("tuple" : String) == "tuple") = true := by decide
  simp only [tt, if_true, Bool.not_true, Bool.false_eq_true, if_false]
  apply wpAny_bind
  apply wpAny_pure
  simp only [Bool.not_true, Bool.false_eq_true, if_false]
  show wpAny _ _ (seqItems? (.ref a) >>= _) _ _ s
  apply wpAny_bind
  refine wpAny_seqItems ho hd ?_
  dsimp only
  apply wpAny_bind
  show wpAny _ _ (forIn vs _ _) _ _ s
  rw [← Array.forIn_toList]
  refine wpAny_forIn_list _ (fun left r s' => (r.1 = none ∧ s' = s) ∧ ∀ v ∈ left, NoStm P w n s v) _ ?_ ?_ _ _ ⟨⟨rfl, rfl⟩, hq⟩
  · rintro v left r s' ⟨⟨hr, rfl⟩, all⟩
    apply wpAny_bind
    refine all v List.mem_cons_self _ _ _ ?_
    simp only [Bool.false_eq_true, if_false]
    exact wpAny_pure ⟨⟨rfl, rfl⟩, fun u hu => all u (List.mem_cons_of_mem _ hu)⟩
  · rintro ⟨r1, r2⟩ s' ⟨⟨hr, rfl⟩, _⟩
    cases hr
    exact wpAny_pure q
mutual
theorem key_hashV : ∀ (k : NestedKey) (v : Value) (n : Nat) (s : Shared), NestedIs s.heap k v → onlyN k = true → k.depth ≤ n → HashV P w n s v
  | .none, _, _, _, _, z, _ => nomatch z
  | .text _, _, _, _, _, z, _ => nomatch z
  | .num i, _, n, s, x, _, _ => fun A E Q q => by
    cases x <;> cases n <;> exact wpAny_pure q
  | .tup ks, _, 0, s, x, _, hn => by
    simp only [NestedKey.depth] at hn
    omega
  | .tup ks, _, n + 1, s, x, z, hn => by
    cases x with
    | tup hg hc hd hk =>
      simp only [NestedKey.depth] at hn
      exact .tuple hg hc hd (keys_hashV ks _ n s hk z (by omega))
theorem keys_hashV : ∀ (ks : List NestedKey) (vs : List Value) (n : Nat) (s : Shared), NestedAll s.heap ks vs → onlyNs ks = true → NestedKey.depthAll ks ≤ n → ∀ v ∈ vs, HashV P w n s v
  | [], _, n, s, x, _, _, v, hv => by cases x; cases hv
  | k :: ks, _, n, s, x, z, hn, v, hv => by
    cases x with
    | cons x1 x2 =>
      simp only [NestedKey.depthAll] at hn
      simp only [onlyNs, Bool.and_eq_true] at z
      rcases List.mem_cons.mp hv with e | hv
      · rw [e]
        exact key_hashV k _ n s x1 z.1 (by omega)
      · exact keys_hashV ks _ n s x2 z.2 (by omega) v hv
end
mutual
theorem key_noStm : ∀ (k : NestedKey) (v : Value) (n : Nat) (s : Shared), NestedIs s.heap k v → onlyN k = true → k.depth ≤ n → NoStm P w n s v
  | .none, _, _, _, _, z, _ => nomatch z
  | .text _, _, _, _, _, z, _ => nomatch z
  | .num i, _, n, s, x, _, _ => fun A E Q q => by
    cases x <;> cases n <;> exact wpAny_pure q
  | .tup ks, _, 0, s, x, _, hn => by
    simp only [NestedKey.depth] at hn
    omega
  | .tup ks, _, n + 1, s, x, z, hn => by
    cases x with
    | tup hg hc hd hk =>
      simp only [NestedKey.depth] at hn
      exact .tuple hg hc hd (keys_noStm ks _ n s hk z (by omega))
theorem keys_noStm : ∀ (ks : List NestedKey) (vs : List Value) (n : Nat) (s : Shared), NestedAll s.heap ks vs → onlyNs ks = true → NestedKey.depthAll ks ≤ n → ∀ v ∈ vs, NoStm P w n s v
  | [], _, n, s, x, _, _, v, hv => by cases x; cases hv
  | k :: ks, _, n, s, x, z, hn, v, hv => by
    cases x with
    | cons x1 x2 =>
      simp only [NestedKey.depthAll] at hn
      simp only [onlyNs, Bool.and_eq_true] at z
      rcases List.mem_cons.mp hv with e | hv
      · rw [e]
        exact key_noStm k _ n s x1 z.1 (by omega)
      · exact keys_noStm ks _ n s x2 z.2 (by omega) v hv
end
end byvalue
/-! ### sets of such keys: searched, added to, asked, made of a list -/
section bsets
variable {P : Program} {w : World} {A : Around} {E : Value → Shared → Prop} {s : Shared}
def BIs (h : Heap) (k : NestedKey) (a : Addr) : Prop := NestedIs h k (.ref a) ∧ k.depth ≤ 8 ∧ onlyN k = true
theorem BIs.keep {h h' : Heap} {k : NestedKey} {b : Addr} (x : BIs h k b) (hk : ∀ c o, h.get? c = some o → h'.get? c = some o) : BIs h' k b := ⟨NestedIs.at (fun a o _ _ e _ => hk a o e) _ _ x.1, x.2⟩
theorem BIs.set {h h' : Heap} {k : NestedKey} {a b : Addr} {o : Obj} {es : Array (Int × Value)} {ep : Nat} {t : SetTable} (x : BIs h k b) (ho : h.get? a = some o) (hd : o.data = .set es ep t) (hs : Heap.SameBut a h h') : BIs h' k b := by
  refine ⟨NestedIs.at (fun c oc vs n e q => (hs.2 c fun z => ?_).trans e) _ _ x.1, x.2⟩
  rw [z, ho] at e
  cases e
  rw [hd] at q
  cases q
theorem key_eq {x y : NestedKey} {a b : Addr} {Q : Bool → Shared → Prop} (hu : A.units + 8 < cLine) (hx : BIs s.heap x a) (hy : BIs s.heap y b) (q : Q (decide (x = y)) s) : wpAny (model P w) A (eqBool (.ref a) (.ref b)) Q E s :=
  (nestedKind P w).eqBool hu ⟨hx.1, hx.2.1⟩ ⟨hy.1, hy.2.1⟩ q
/-- such a search shows nothing -/
theorem key_seen {k : NestedKey} {b : Addr} {Q : Bool → Shared → Prop} (hk : BIs s.heap k b) {ys : List Value} (hy : ∀ y ∈ ys, ∃ k' c, y = Value.ref c ∧ BIs s.heap k' c) (q : Q false s) :
    wpAny (model P w) A (searchCouldBeSeen (.ref b) ys) Q E s := by
  unfold searchCouldBeSeen
  apply wpAny_bind
  refine wpAny_forIn_list _ (fun left r s' => (r.1 = none ∧ s' = s) ∧ ∀ y ∈ left, ∃ k' c, y = Value.ref c ∧ BIs s.heap k' c) _ ?_ ?_ _ _ ⟨⟨rfl, rfl⟩, hy⟩
  · rintro v left r s' ⟨⟨hr, rfl⟩, all⟩
    obtain ⟨k', c, rfl, hc⟩ := all v List.mem_cons_self
    have goes : ∀ y ∈ left, ∃ k' c, y = Value.ref c ∧ BIs s'.heap k' c := fun u hu => all u (List.mem_cons_of_mem _ hu)
    dsimp only
    by_cases same : (b == c || (carriedByValue (.ref b) && carriedByValue (.ref c))) = true
    · exact wp_if_pos same (wpAny_pure ⟨⟨rfl, rfl⟩, goes⟩)
    refine wp_if_neg same ?_
    apply wpAny_bind
    refine quiet_key k _ 8 s' hk.1 hk.2.1 _ _ _ ?_
    simp only [Bool.not_true, Bool.false_eq_true, if_false]
    apply wpAny_bind
    refine quiet_key k' _ 8 s' hc.1 hc.2.1 _ _ _ ?_
    simp only [Bool.not_true, Bool.false_eq_true, if_false]
    apply wpAny_bind
    refine key_noStm k _ 8 s' hk.1 hk.2.2 hk.2.1 _ _ _ ?_
    simp only [Bool.false_eq_true, if_false]
    apply wpAny_bind
    refine key_noStm k' _ 8 s' hc.1 hc.2.2 hc.2.1 _ _ _ ?_
    simp only [Bool.false_eq_true, if_false]
    exact wpAny_pure ⟨⟨rfl, rfl⟩, goes⟩
  · rintro ⟨r1, r2⟩ s' ⟨⟨hr, rfl⟩, _⟩
    cases hr
    exact wpAny_pure q
abbrev BL := List (Addr × NestedKey)
def bRows (w : World) (L : BL) : List (Int × Value) := L.map fun p => (p.2.hash w, Value.ref p.1)
/-- at most so many entries -/
abbrev mostB : Nat := 8192
structure BSet (w : World) (h : Heap) (a : Addr) (L : BL) (es : Array (Int × Value)) (ep : Nat) (t : SetTable) : Prop where
  ob : ∃ o, h.get? a = some o ∧ o.ExactSet ∧ o.data = .set es ep t
  rows : es.toList = bRows w L
  tab : TabG t (L.map fun p => p.2.hash w)
  nd : (L.map (·.2)).Nodup
  its : ∀ p ∈ L, BIs h p.2 p.1
  plain : t.plain = true
  led : w.params.followText "set-order" = true ∨ t.led = true
  room : L.length * 5 < t.mask * 3
  few : L.length ≤ mostB
variable {a : Addr} {L : BL} {es : Array (Int × Value)} {ep : Nat} {t : SetTable}
theorem bRows_len (w : World) (L : BL) : (bRows w L).length = L.length := List.length_map _
theorem rows_size {es : Array (Int × Value)} {L : BL} (h : es.toList = bRows w L) : es.size = L.length := by
  rw [← Array.length_toList, h, bRows_len]
theorem BSet.fits (R : BSet w s.heap a L es ep t) : t.fits es.size = true := by
  have z1 := R.tab.len
  have z2 := rows_size R.rows
  have z3 := R.room
  rw [List.length_map] at z1
  unfold SetTable.fits SetTable.fill
  simp only [R.tab.nodm, Bool.and_eq_true, beq_iff_eq, decide_eq_true_eq, List.size_toArray, List.length_nil]
  omega
theorem BSet.at (R : BSet w s.heap a L es ep t) {i : Nat} {p : Addr × NestedKey} (h : L[i]? = some p) : es[i]? = some (p.2.hash w, Value.ref p.1) := by
  rw [← Array.getElem?_toList, R.rows]
  unfold bRows
  rw [List.getElem?_map, h]
  rfl
theorem BSet.ty (R : BSet w s.heap a L es ep t) : s.TypeIs (.ref a) "set" := by
  obtain ⟨o, g1, g2, g3⟩ := R.ob
  exact ⟨o, g1, g2.1⟩
abbrev stepP (M : SetTable) (z : Int) (n : Nat) : SetTable.Probe := nth M.mask (runAt M.mask (SetTable.bits z % (M.mask + 1)) (SetTable.bits z)) n
theorem stepP_dummy (M : SetTable) (z : Int) (n : Nat) : (stepP M z n).dummy = none := by
  have key : ∀ (n : Nat) (q : SetTable.Probe), q.dummy = none → (nth M.mask q n).dummy = none := by
    intro n
    induction n with
    | zero => exact fun _ z => z
    | succ n ih =>
      intro q z
      apply ih
      unfold adv
      split
      · exact z
      · exact z
  exact key n _ rfl
theorem b_search (R : BSet w s.heap a L es ep t) {x : Addr} {k : NestedKey} (hx : BIs s.heap k x) (hu : A.units + 8 < cLine) (adding : Bool) {N : Nat} (nf : N < 10 * SetTable.turns t.mask)
    (n0 : way t.mask (k.hash w) N ∉ t.place.toList) (n1 : ∀ c, c < N → way t.mask (k.hash w) c ∈ t.place.toList) {Q : SetFound → Shared → Prop}
    (yes : ∀ r, k ∈ L.map (·.2) → (adding = false → r.isSome = true) → Q (.there r) s) (no : k ∉ L.map (·.2) → Q (.free (way t.mask (k.hash w) N) false) s) :
    ∀ (f c : Nat) (st : Option SetTable.Probe), st.getD (t.probeStart (k.hash w)) = stepP t (k.hash w) c → c ≤ N → N - c < f →
      (∀ (i : Nat) p, L[i]? = some p → p.2 = k → ∃ c', c ≤ c' ∧ c' < N ∧ t.place.toList[i]? = some (way t.mask (k.hash w) c')) →
      wpAny (model P w) A (setSearchFrom a (.ref x) (k.hash w) adding f st) Q E s
  | 0, _, _, _, _, z, _ => absurd z (Nat.not_lt_zero _)
  | f + 1, c, st, hst, hc, hf, met => by
    obtain ⟨o, g1, g2, g3⟩ := R.ob
    rw [setSearchFrom_succ]
    apply wpAny_bind
    refine wpAny_setState_of g1 g3 R.fits ?_
    dsimp only
    refine wp_if_neg (by unfold SetTable.gaveWay; rw [R.tab.two.odd]; decide) ?_
    have shift : ∀ q, nth t.mask (stepP t (k.hash w) c) q = stepP t (k.hash w) (c + q) := fun q => (nth_add t.mask c _ q).symm
    have slot : ∀ q, (nth t.mask (stepP t (k.hash w) c) q).j = way t.mask (k.hash w) (c + q) := fun q => congrArg SetTable.Probe.j (shift q)
    have answers := go_spec t R.tab.up R.tab.nodm (fun i => (es[i]?.map (·.1)).getD 0) (k.hash w) (10 * SetTable.turns t.mask) (N - c) _ (stepP_dummy t (k.hash w) c) (by omega)
      (fun q hq => by rw [slot]; exact n1 _ (by omega)) (by rw [slot, show c + (N - c) = N by omega]; exact n0)
    have hashed : ∀ (i : Nat) p, L[i]? = some p → (fun i => (es[i]?.map (·.1)).getD 0) i = p.2.hash w := fun i p z => by
      show (es[i]?.map (·.1)).getD 0 = _
      rw [R.at z]
      rfl
    rcases answers with ⟨q, i, hq, hi, _, past, ans⟩ | ⟨past, ans⟩
    · have ans2 : t.probe (fun i => (es[i]?.map (·.1)).getD 0) (k.hash w) (st.getD (t.probeStart (k.hash w))) = some (.candidate (way t.mask (k.hash w) (c + q)) i (stepP t (k.hash w) (c + (q + 1)))) := by
        rw [hst, ← slot, ← shift]
        exact ans
      rw [ans2]
      dsimp only
      rw [slot] at hi
      have il : i < L.length := by
        have z1 := (List.getElem?_eq_some_iff.mp hi).1
        have z2 := R.tab.len
        rw [List.length_map] at z2
        rw [Array.length_toList, z2] at z1
        exact z1
      obtain ⟨p, hp⟩ : ∃ p, L[i]? = some p := ⟨_, List.getElem?_eq_getElem il⟩
      have pm : p ∈ L := List.mem_of_getElem? hp
      have live : t.slot (way t.mask (k.hash w) (c + q)) = .live i := slot_live R.tab.up hi
      have rest : wpAny (model P w) A (searchRest a (.ref x) (k.hash w) adding f es t (way t.mask (k.hash w) (c + q)) i (stepP t (k.hash w) (c + (q + 1)))) Q E s := by
        unfold searchRest
        rw [R.at hp]
        dsimp only
        apply wpAny_bind
        apply wpAny_holding
        refine key_eq hu (R.its p pm) hx ?_
        apply wpAny_bind
        refine wpAny_setState_of g1 g3 R.fits ?_
        dsimp only
        by_cases quick : adding = true ∧ p.2 = k
        · refine wp_if_pos (by simp [quick]) ?_
          exact wpAny_pure (yes none (List.mem_map.mpr ⟨p, pm, quick.2⟩) fun z => by rw [quick.1] at z; cases z)
        refine wp_if_neg (by simpa using quick) ?_
        rw [sameMem]
        dsimp only
        simp only [if_true, live, R.at hp]
        apply wpAny_bind
        apply wpAny_isSame_ref_self
        apply wpAny_bind
        apply wpAny_pure
        simp only [if_true]
        by_cases same : p.2 = k
        · refine wp_if_pos (by simp [same]) ?_
          exact wpAny_pure (yes (some i) (List.mem_map.mpr ⟨p, pm, same⟩) fun _ => rfl)
        · refine wp_if_neg (by simp [same]) ?_
          refine b_search R hx hu adding nf n0 n1 yes no f (c + (q + 1)) _ rfl (by omega) (by omega) fun j p' hj hk' => ?_
          obtain ⟨c', b1, b2, b3⟩ := met j p' hj hk'
          refine ⟨c', ?_, b2, b3⟩
          by_cases z : c + (q + 1) ≤ c'
          · exact z
          exfalso
          by_cases z2 : c' = c + q
          · rw [z2] at b3
            have l2 := slot_live R.tab.up b3
            rw [live] at l2
            injection l2 with l2
            rw [← l2, hp] at hj
            exact same ((congrArg Prod.snd (Option.some.inj hj)).trans hk')
          · exact past (c' - c) j (by omega) (by rw [slot, show c + (c' - c) = c' by omega]; exact b3) ((hashed j p' hj).trans (congrArg (NestedKey.hash w) hk'))
      by_cases led : t.led = true
      · refine wp_if_neg (by simp [led]) ?_
        exact rest
      · refine wp_if_pos (by simp [led]) ?_
        apply wpAny_bind
        refine key_seen hx (fun y hy => ?_) ?_
        · obtain ⟨e1, m1, rfl⟩ := List.mem_map.mp hy
          have m2 : e1 ∈ es.toList := by
            have z : e1 ∈ es ∧ e1.1 = k.hash w := by simpa using m1
            simpa using z.1
          rw [R.rows] at m2
          obtain ⟨p2, m3, rfl⟩ := List.mem_map.mp m2
          exact ⟨_, _, rfl, R.its _ m3⟩
        · refine wp_if_neg (by decide) ?_
          exact rest
    · have ans2 : t.probe (fun i => (es[i]?.map (·.1)).getD 0) (k.hash w) (st.getD (t.probeStart (k.hash w))) = some (.empty (way t.mask (k.hash w) N) none) := by
        have z : way t.mask (k.hash w) N = (nth t.mask (stepP t (k.hash w) c) (N - c)).j := by rw [slot, show c + (N - c) = N by omega]
        rw [hst, z]
        exact ans
      rw [ans2]
      dsimp only
      refine wpAny_pure (no fun z => ?_)
      obtain ⟨p, pm, hk'⟩ := List.mem_map.mp z
      obtain ⟨j, hj⟩ := List.mem_iff_getElem?.mp pm
      obtain ⟨c', b1, b2, b3⟩ := met j p hj hk'
      exact past (c' - c) j (by omega) (by rw [slot, show c + (c' - c) = c' by omega]; exact b3) ((hashed j p hj).trans (congrArg (NestedKey.hash w) hk'))
theorem b_searched (R : BSet w s.heap a L es ep t) {x : Addr} {k : NestedKey} (hx : BIs s.heap k x) (hu : A.units + 8 < cLine) (adding : Bool) {Q : SetFound → Shared → Prop}
    (yes : ∀ r, k ∈ L.map (·.2) → (adding = false → r.isSome = true) → Q (.there r) s)
    (no : ∀ N, k ∉ L.map (·.2) → way t.mask (k.hash w) N ∉ t.place.toList → (∀ c, c < N → way t.mask (k.hash w) c ∈ t.place.toList) → Q (.free (way t.mask (k.hash w) N) false) s) :
    wpAny (model P w) A (setSearch a (.ref x) (k.hash w) adding) Q E s := by
  have room := R.room
  have few : L.length ≤ 8192 := R.few
  obtain ⟨N, n2, nf, n0, n1⟩ := R.tab.free (by rw [List.length_map]; omega) (k.hash w)
  rw [List.length_map] at n2
  unfold setSearch
  refine b_search R hx hu adding nf n0 n1 yes (fun z => no N z n0 n1) 100000 0 none rfl (Nat.zero_le _) (by omega) fun i p hp hk' => ?_
  have il : i < t.place.toList.length := by
    have z1 := (List.getElem?_eq_some_iff.mp hp).1
    have z2 := R.tab.len
    rw [List.length_map] at z2
    rw [Array.length_toList, z2]
    exact z1
  have hj := List.getElem?_eq_getElem il
  obtain ⟨c, hc, e⟩ := R.tab.ahead (z := k.hash w) n0 (by rw [List.getElem?_map, hp, ← hk']; rfl) hj
  exact ⟨c, Nat.zero_le _, hc, by rw [hj, e]⟩
theorem b_find (R : BSet w s.heap a L es ep t) {x : Addr} {k : NestedKey} (hx : BIs s.heap k x) (hu : A.units + 8 < cLine) {Q : Option Nat → Shared → Prop}
    (q : ∀ r, r.isSome = decide (k ∈ L.map (·.2)) → Q r s) : wpAny (model P w) A (setFind a (.ref x) (k.hash w)) Q E s := by
  obtain ⟨o, g1, g2, g3⟩ := R.ob
  unfold setFind
  rw [show (100000 : Nat) = 99999 + 1 from rfl]
  unfold setFindIn
  apply wpAny_bind
  refine wpAny_setState_of g1 g3 R.fits ?_
  dsimp only
  refine wp_if_neg (by simp [byScan, Value.scannable]) ?_
  apply wpAny_bind
  refine b_searched R hx hu false (fun r z z2 => ?_) fun N z _ _ => ?_
  · exact wpAny_pure (q r (by rw [decide_eq_true z]; exact z2 rfl))
  · exact wpAny_pure (q none (by rw [decide_eq_false z]; rfl))
theorem b_ask (R : BSet w s.heap a L es ep t) {x : Addr} {k : NestedKey} (hx : BIs s.heap k x) (hu : A.units + 9 < cLine) {Q : Bool → Shared → Prop}
    (q : Q (decide (k ∈ L.map (·.2))) { s with toks := s.toks + k.draws }) : wpAny (model P w) A (contains (.ref a) (.ref x)) Q E s := by
  unfold contains
  apply wpAny_holding
  apply wpAny_bind
  refine wpAny_specialOf R.ty F.slot_set_contains.lookup ?_
  show wpAny _ _ (if (some (Value.builtin "set.__contains__") == some Value.none) = true then _ else _) _ E s
  rw [if_neg (by rw [beq_builtin_none]; decide)]
  apply wpAny_bind
  refine wpAny_callSpecialUnlessNone?_slot (name := Str.ofString "__contains__") R.ty F.slot_set_contains ?_
  refine wpAny_call_entry F.slot_set_contains R.ty entry_set_contains ?_ (F.args_set_contains_2 _ _)
  unfold Builtin.«frozenset.__contains__» Builtin.Frozenset.oneOther
  simp only [List.isEmpty_nil, bind_assoc]
  unfold Builtin.Frozenset.addrOf Builtin.Frozenset.withSetAsKey setContains
  apply wpAny_bind
  apply wpAny_pure
  try dsimp only
  apply wpAny_bind
  apply wpAny_pure
  try dsimp only
  apply wpAny_bind
  apply wpAny_tryCatch
  apply wpAny_holding
  apply wpAny_bind
  refine pyHash_key k _ _ s _ hx.1 (by have := hx.2.1; show A.units + 1 + k.depth < cLine; omega) ?_
  apply wpAny_bind
  refine b_find (s := { s with toks := s.toks + k.draws }) R hx (by show A.units + 1 + 8 < cLine; omega) fun r hr => ?_
  apply wpAny_pure
  show wpAny _ _ (ret (Value.bool r.isSome)) _ _ _
  rw [hr]
  exact wpAny_pure ⟨_, rfl, wpAny_truthy_bool q⟩
/-- the rows in the order in which a table has them -/
theorem b_order (es : Array (Int × Value)) (order : Array Nat) (hr : es.toList = bRows w L) (hp : order.toList.Perm (List.range L.length)) :
    ∃ L2 : BL, (order.filterMap (es[·]?)).toList = bRows w L2 ∧ L2.Perm L ∧ (L2.map fun p => p.2.hash w) = order.toList.map fun i => (es.map (·.1)).getD i 0 := by
  have get : ∀ i, es[i]? = L[i]?.map fun p : Addr × NestedKey => (p.2.hash w, Value.ref p.1) := fun i => by
    rw [← Array.getElem?_toList, hr]
    unfold bRows
    rw [List.getElem?_map]
  have key : ∀ l : List Nat, (∀ i ∈ l, i < L.length) → l.filterMap (fun i => es[i]?) = bRows w (l.filterMap fun i => L[i]?) ∧ ((l.filterMap fun i => L[i]?).map fun p => p.2.hash w) = l.map fun i => (es.map (·.1)).getD i 0 := by
    intro l
    induction l with
    | nil => exact fun _ => ⟨rfl, rfl⟩
    | cons i l ih =>
      intro hl
      obtain ⟨e1, e2⟩ := ih fun j hj => hl j (List.mem_cons_of_mem _ hj)
      have hi := List.getElem?_eq_getElem (hl i List.mem_cons_self)
      have he := get i
      rw [hi] at he
      constructor
      · rw [List.filterMap_cons_some he, List.filterMap_cons_some hi, e1]
        rfl
      · rw [List.filterMap_cons_some hi, List.map_cons, List.map_cons, e2]
        have : (es.map (·.1))[i]? = some ((L[i]'(hl i List.mem_cons_self)).2.hash w) := by
          rw [Array.getElem?_map, he]
          rfl
        rw [Array.getD_eq_getD_getElem?, this]
        rfl
  obtain ⟨e1, e2⟩ := key order.toList fun i hi => List.mem_range.mp (hp.mem_iff.mp hi)
  refine ⟨_, by rw [Array.toList_filterMap]; exact e1, ?_, e2⟩
  have z := hp.filterMap fun i => L[i]?
  rwa [List.filterMap_getElem?_range_length] at z
theorem set_stored {h : Heap} {o : Obj} (ho : h.get? a = some o) (hex : o.ExactSet) (hd : o.data = .set es ep t) (es' : Array (Int × Value)) (t' : SetTable) :
    ∃ o', (h.update a (Obj.putSet es' t')).get? a = some o' ∧ o'.ExactSet ∧ o'.data = .set es' (ep + 1) t' := by
  have z := store_at (es' := es') (t' := t') ho hd
  exact ⟨_, z, ⟨hex.1, hex.2.1, hex.2.2⟩, rfl⟩
/-- all laid anew in a greater table -/
theorem b_relay {o : Obj} (ho : s.heap.get? a = some o) (hex : o.ExactSet) (hd : o.data = .set es ep t) (rows : es.toList = bRows w L) (T : TabG t (L.map fun p => p.2.hash w)) (fit : L.length ≤ t.mask)
    (nd : (L.map (·.2)).Nodup) (its : ∀ p ∈ L, BIs s.heap p.2 p.1) (pl : t.plain = true) (ld : w.params.followText "set-order" = true ∨ t.led = true) (few : L.length ≤ mostB) {Q : Unit → Shared → Prop}
    (q : ∀ h' L' es' ep' t', Heap.SameBut a s.heap h' → BSet w h' a L' es' ep' t' → L'.Perm L → Q () { s with heap := h' }) : wpAny (model P w) A (setRelay a (SetTable.grown L.length)) Q E s := by
  have sz := rows_size rows
  have few' : L.length ≤ 8192 := few
  have tl := T.len
  rw [List.length_map] at tl
  have gr : SetTable.grown L.length = L.length * 4 := by
    unfold SetTable.grown
    rw [if_neg (by omega)]
  have fits : t.fits es.size = true := by
    unfold SetTable.fits SetTable.fill
    simp only [T.nodm, Bool.and_eq_true, beq_iff_eq, decide_eq_true_eq, List.size_toArray, List.length_nil]
    omega
  obtain ⟨M, m1, m2, m3, m4⟩ := size_two (n := L.length * 4) (by omega)
  obtain ⟨t', order, e, hp, T2, em, el, epl⟩ := relaid_two t (hs := es.map (·.1)) m1 m2 (by rw [Array.size_map, sz]; omega)
  rw [Array.size_map, sz] at hp
  obtain ⟨L2, r1, r2, r3⟩ := b_order es order rows hp
  rw [← r3] at T2
  have l2 := r2.length_eq
  have sz2 := rows_size r1
  have mpos : M ≠ 0 := by
    intro z
    obtain ⟨x, hx⟩ := m2
    rw [z, Nat.pow_succ] at hx
    omega
  rw [setRelay_eq, gr]
  apply wpAny_bind
  refine wpAny_setState_of ho hd fits ?_
  dsimp only
  refine wp_if_neg (by rw [m1, sizeLine_eq]; omega) ?_
  rw [e]
  dsimp only
  apply wpAny_bind
  refine wp_if_neg (by rw [sz2, l2, sz]; simp) ?_
  apply wpAny_pure
  dsimp only
  refine wpAny_storeSet_of ho hd ?_ (by rw [sz2, l2, sizeLine_eq]; omega)
  have sb : Heap.SameBut a s.heap (s.heap.update a (Obj.putSet (order.filterMap (es[·]?)) t')) := Heap.SameBut.update ..
  exact q _ L2 _ (ep + 1) t' sb ⟨set_stored ho hex hd _ _, r1, T2, (r2.map (·.2)).nodup_iff.mpr nd, fun p hpm => (its p (r2.mem_iff.mp hpm)).set ho hd sb, epl.trans pl, by rw [el]; exact ld, by rw [em, l2]; omega, by rw [l2]; exact few⟩ r2
theorem b_put {o : Obj} (R : BSet w s.heap a L es ep t) (ho : s.heap.get? a = some o) (hex : o.ExactSet) (hd : o.data = .set es ep t) {x : Addr} {k : NestedKey} (hx : BIs s.heap k x) (few : L.length + 1 ≤ mostB) (hm : k ∉ L.map (·.2)) {N : Nat}
    (n0 : way t.mask (k.hash w) N ∉ t.place.toList) (n1 : ∀ c, c < N → way t.mask (k.hash w) c ∈ t.place.toList) {Q : Bool → Shared → Prop}
    (q : ∀ h' L' es' ep' t', Heap.SameBut a s.heap h' → BSet w h' a L' es' ep' t' → L'.Perm ((x, k) :: L) → Q true { s with heap := h' }) :
    wpAny (model P w) A (do
      let (t, p) := t.put (way t.mask (k.hash w) N)
      let byValue ← if t.plain then hashByValue 8 (.ref x) else pure true
      let t := if byValue then t else { t with plain := false }
      storeSet a (SetTable.insertAt es p (k.hash w, .ref x)) t
      if !false && t.tooFull then setRelay a (SetTable.grown (es.size + 1))
      return true) Q E s := by
  have sz := rows_size R.rows
  have few' : L.length + 1 ≤ 8192 := few
  have room := R.room
  obtain ⟨p, t1, e, pl, T1, m1, l1, p1, f1⟩ := R.tab.put n0 n1
  rw [List.length_map] at pl f1
  rw [e]
  dsimp only
  have plain1 : t1.plain = true := p1.trans R.plain
  have rows1 : (SetTable.insertAt es p (k.hash w, Value.ref x)).toList = bRows w (L.take p ++ (x, k) :: L.drop p) := by
    rw [SetTable.toList_insertAt, R.rows]
    unfold bRows
    rw [List.map_append, List.map_cons, List.map_take, List.map_drop]
  have pm : (L.take p ++ (x, k) :: L.drop p).Perm ((x, k) :: L) := put_perm L p (x, k)
  have T2 : TabG t1 ((L.take p ++ (x, k) :: L.drop p).map fun p => p.2.hash w) := by
    rw [List.map_append, List.map_cons, List.map_take, List.map_drop]
    exact T1
  have len : (L.take p ++ (x, k) :: L.drop p).length = L.length + 1 := pm.length_eq
  have nd1 : ((L.take p ++ (x, k) :: L.drop p).map (·.2)).Nodup := (pm.map (·.2)).nodup_iff.mpr (List.nodup_cons.mpr ⟨hm, R.nd⟩)
  have sz1 := rows_size rows1
  generalize SetTable.insertAt es p (k.hash w, Value.ref x) = es1 at rows1 sz1 ⊢
  generalize L.take p ++ (x, k) :: L.drop p = L1 at pm len T2 nd1 rows1 sz1
  refine wp_if_pos plain1 ?_
  apply wpAny_bind
  refine key_hashV k _ 8 s hx.1 hx.2.2 hx.2.1 _ _ _ ?_
  simp only [if_true]
  apply wpAny_bind
  refine wpAny_storeSet_of ho hd ?_ (by rw [sz1, len, sizeLine_eq]; omega)
  have sb : Heap.SameBut a s.heap (s.heap.update a (Obj.putSet es1 t1)) := Heap.SameBut.update ..
  obtain ⟨o1, b1, b2, b3⟩ := set_stored ho hex hd es1 t1
  generalize s.heap.update a (Obj.putSet es1 t1) = h1 at sb b1 ⊢
  have its1 : ∀ p ∈ L1, BIs h1 p.2 p.1 := fun p hp => by
    rcases List.mem_cons.mp (pm.mem_iff.mp hp) with z | hp
    · rw [z]
      exact hx.set ho hd sb
    · exact (R.its p hp).set ho hd sb
  have led1 : w.params.followText "set-order" = true ∨ t1.led = true := by rw [l1]; exact R.led
  by_cases full : t1.tooFull = true
  · refine wp_if_pos (by simp [full]) ?_
    apply wpAny_bind
    rw [sz, ← len]
    refine b_relay (s := { s with heap := h1 }) b1 b2 b3 rows1 T2 (by rw [len, m1]; omega) nd1 its1 plain1 led1 (by rw [len]; exact few) fun h2 L2 es2 ep2 t2 sb2 R2 pm2 => ?_
    exact wpAny_pure (q h2 L2 es2 ep2 t2 (sb.trans sb2) R2 (pm2.trans pm))
  · refine wp_if_neg (by simp [full]) ?_
    have nf := full
    unfold SetTable.tooFull at nf
    rw [decide_eq_true_eq, f1] at nf
    exact wpAny_pure (q h1 L1 es1 (ep + 1) t1 sb ⟨⟨o1, b1, b2, b3⟩, rows1, T2, nd1, its1, plain1, led1, by rw [len]; omega, by rw [len]; exact few⟩ pm)
theorem b_add (R : BSet w s.heap a L es ep t) {x : Addr} {k : NestedKey} (hx : BIs s.heap k x) (hu : A.units + 8 < cLine) (few : L.length + 1 ≤ mostB) {Q : Bool → Shared → Prop}
    (q : ∀ b h' L' es' ep' t', Heap.SameBut a s.heap h' → BSet w h' a L' es' ep' t' → (k ∈ L.map (·.2) → L' = L) → (k ∉ L.map (·.2) → L'.Perm ((x, k) :: L)) → Q b { s with heap := h' }) :
    wpAny (model P w) A (setAddHashed a (.ref x) (k.hash w)) Q E s := by
  obtain ⟨o, g1, g2, g3⟩ := R.ob
  unfold setAddHashed
  apply wpAny_holding
  rw [show (100000 : Nat) = 99999 + 1 from rfl, setAddHashedIn_succ]
  apply wpAny_bind
  refine wpAny_setState_of g1 g3 R.fits ?_
  dsimp only
  refine wp_if_neg (by simp [byScan, Value.scannable]) ?_
  apply wpAny_bind
  refine b_searched R hx hu true (fun r z _ => ?_) fun N z n0 n1 => ?_
  · dsimp only
    exact wpAny_pure (q false s.heap L es ep t (Heap.SameBut.refl a s.heap) R (fun _ => rfl) fun z2 => absurd z z2)
  · dsimp only
    apply wpAny_bind
    refine wpAny_setState_of g1 g3 R.fits ?_
    exact b_put R g1 g2 g3 hx few z n0 n1 fun h' L' es' ep' t' sb R' pm => q true h' L' es' ep' t' sb R' (fun z2 => absurd z2 z) fun _ => pm
theorem b_sadd (R : BSet w s.heap a L es ep t) {x : Addr} {k : NestedKey} (hx : BIs s.heap k x) (hu : A.units + 9 < cLine) (few : L.length + 1 ≤ mostB) {Q : Value → Shared → Prop}
    (q : ∀ h' L' es' ep' t', Heap.SameBut a s.heap h' → BSet w h' a L' es' ep' t' → (k ∈ L.map (·.2) → L' = L) → (k ∉ L.map (·.2) → L'.Perm ((x, k) :: L)) → Q .none { s with heap := h', toks := s.toks + k.draws }) :
    wpAny (model P w) A (call (.builtin "set.add") [.ref a, .ref x]) Q E s := by
  refine wpAny_call_entry F.slot_set_add R.ty F.entry_set_add ?_ (F.args_set_add_2 _ _)
  unfold Builtin.«set.add» Builtin.Frozenset.oneOther
  simp only [List.isEmpty_nil, bind_assoc]
  unfold Builtin.Frozenset.addrOf setAdd
  apply wpAny_bind
  apply wpAny_pure
  try dsimp only
  apply wpAny_bind
  apply wpAny_pure
  try dsimp only
  apply wpAny_bind
  apply wpAny_holding
  apply wpAny_bind
  refine pyHash_key k _ _ s _ hx.1 (by have := hx.2.1; show A.units + 1 + k.depth < cLine; omega) ?_
  refine b_add (s := { s with toks := s.toks + k.draws }) R hx (by show A.units + 1 + 8 < cLine; omega) few fun b h' L' es' ep' t' z1 z2 z3 z4 => ?_
  show wpAny _ _ (ret Value.none) _ _ _
  exact wpAny_pure ⟨_, rfl, q h' L' es' ep' t' z1 z2 z3 z4⟩
theorem BSet.keep {h h' : Heap} (R : BSet w h a L es ep t) (ha : ∀ o, h.get? a = some o → h'.get? a = some o) (ht : ∀ p ∈ L, BIs h' p.2 p.1) : BSet w h' a L es ep t := by
  obtain ⟨o, g1, g2⟩ := R.ob
  exact ⟨⟨o, ha o g1, g2⟩, R.rows, R.tab, R.nd, ht, R.plain, R.led, R.room, R.few⟩
theorem bset_new {h : Heap} {a : Addr} (ho : h.get? a = some { cls := .type "set", dict := none, data := .set #[] 0 (.fresh 0 0 (!w.params.followText "set-order")) }) : BSet w h a [] #[] 0 (.fresh 0 0 (!w.params.followText "set-order")) := by
  refine ⟨⟨_, ho, ⟨rfl, rfl, rfl⟩, rfl⟩, rfl, ⟨List.Pairwise.nil, rfl, rfl, ⟨2, rfl⟩, fun x hx => (by cases hx), fun i z j hi => (by simp at hi)⟩, List.nodup_nil, fun p hp => (by cases hp), rfl, ?_, (by show 0 * 5 < 7 * 3; decide), Nat.zero_le _⟩
  show _ ∨ (!w.params.followText "set-order") = true
  cases w.params.followText "set-order"
  · exact .inr rfl
  · exact .inl rfl
end bsets
/-! ### set(xs) of a list of such keys -/
section bmake
variable {P : Program} {w : World} {A : Around} {E : Value → Shared → Prop} {s : Shared}
/-- what the first i items have brought -/
def GotB (ks : BL) (i : Nat) (L : BL) : Prop := (∀ p ∈ L, p ∈ ks.take i) ∧ (∀ p ∈ ks.take i, p.2 ∈ L.map (·.2)) ∧ L.length ≤ i
theorem GotB.old {ks L : BL} {i : Nat} {x : Addr × NestedKey} (g : GotB ks i L) (h : ks[i]? = some x) (hm : x.2 ∈ L.map (·.2)) : GotB ks (i + 1) L := by
  refine ⟨fun p hp => ?_, fun p hp => ?_, Nat.le_succ_of_le g.2.2⟩
  · rw [take_next h]
    exact List.mem_append_left _ (g.1 p hp)
  · rw [take_next h] at hp
    rcases List.mem_append.mp hp with z | z
    · exact g.2.1 p z
    · rw [List.mem_singleton.mp z]
      exact hm
theorem GotB.new {ks L L' : BL} {i : Nat} {x : Addr × NestedKey} (g : GotB ks i L) (h : ks[i]? = some x) (pm : L'.Perm (x :: L)) : GotB ks (i + 1) L' := by
  refine ⟨fun p hp => ?_, fun p hp => ?_, ?_⟩
  · rw [take_next h]
    rcases List.mem_cons.mp (pm.mem_iff.mp hp) with z | z
    · exact List.mem_append_right _ (by rw [z]; exact List.mem_singleton_self _)
    · exact List.mem_append_left _ (g.1 p z)
  · rw [take_next h] at hp
    refine (pm.map (·.2)).mem_iff.mpr ?_
    rcases List.mem_append.mp hp with z | z
    · exact List.mem_cons_of_mem _ (g.2.1 p z)
    · rw [List.mem_singleton.mp z]
      exact List.mem_cons_self
  · have z := pm.length_eq
    have z2 := g.2.2
    rw [List.length_cons] at z
    omega
theorem b_update {I : Addr} {fp wr : List Addr} {G : Array GenState → Array GenState → Prop} {n : Nat} {Pv : Nat → Value → Prop} {St : Nat → Shared → Prop} {R : Result → Shared → Prop}
    (W : WalksS P w A.in1 I fp wr G n Pv St) (S : Addr) (sf : S ∉ fp) (ks : BL) (kn : n = ks.length) (few : ks.length ≤ mostB) (val : ∀ i v, Pv i v → ∃ p, ks[i]? = some p ∧ v = .ref p.1)
    (h0 : Heap) (its : ∀ p ∈ ks, BIs h0 p.2 p.1) (s0 : h0.get? S = none) (w0 : ∀ b ∈ wr, h0.get? b = none) (hu : A.units + 9 < cLine) :
    ∀ (d i : Nat) (s : Shared), n - i = d → i ≤ n → St i s → (∀ b o, h0.get? b = some o → s.heap.get? b = some o) → (∃ L es ep t, BSet w s.heap S L es ep t ∧ GotB ks i L) →
      (∀ s' L es ep t, Moved (S :: wr) G s s' → BSet w s'.heap S L es ep t → GotB ks n L → (∀ b o, h0.get? b = some o → s'.heap.get? b = some o) → R (.ok (.ret .none)) s') →
      codeAny (model P w) A (.builtin "set.update.loop" ⟨[.ref S, .ref I], []⟩) R s := by
  have sw : S ∉ wr := fun z => sf (W.sub _ z)
  have more : ∀ b ∈ wr, b ∈ S :: wr := fun b hb => List.mem_cons_of_mem _ hb
  have stay : ∀ {s s' : Shared}, Moved wr G s s' → (∀ b o, h0.get? b = some o → s.heap.get? b = some o) → ∀ b o, h0.get? b = some o → s'.heap.get? b = some o := fun hm kp b o e =>
    hm.heap b o (fun z => by rw [w0 b z] at e; cases e) (kp b o e)
  intro d
  induction d with
  | zero =>
    intro i s di hi st kp ⟨L, es, ep, t, B, g⟩ q
    obtain rfl : i = n := by omega
    refine codeAny_builtin F.entry_set_update_loop ?_
    rw [Around.under_plainId F.plain_set_update_loop _]
    show wpAny _ A.in1 (pyNext (.ref I) >>= _) _ _ s
    apply wpAny_bind
    refine W.done s _ _ st fun s' hm => ?_
    show wpAny _ A.in1 (ret Value.none) _ _ s'
    have kp' := stay hm kp
    exact wpAny_pure (q s' L es ep t (hm.mono more) (B.keep (fun o e => hm.heap S o sw e) fun p hp => (its p (List.mem_of_mem_take (g.1 p hp))).keep kp') g kp')
  | succ d ih =>
    intro i s di hi st kp ⟨L, es, ep, t, B, g⟩ q
    refine codeAny_builtin F.entry_set_update_loop ?_
    rw [Around.under_plainId F.plain_set_update_loop _]
    show wpAny _ A.in1 (pyNext (.ref I) >>= _) _ _ s
    apply wpAny_bind
    refine W.item i s _ _ (by omega) st fun v s' pv st' hm => ?_
    obtain ⟨p, hp, rfl⟩ := val i v pv
    have kp' := stay hm kp
    have B' : BSet w s'.heap S L es ep t := B.keep (fun o e => hm.heap S o sw e) fun x hx => (its x (List.mem_of_mem_take (g.1 x hx))).keep kp'
    have here : BIs s'.heap p.2 p.1 := (its p (List.mem_of_getElem? hp)).keep kp'
    have il : i < ks.length := (List.getElem?_eq_some_iff.mp hp).1
    have gl := g.2.2
    show wpAny _ A.in1 (holding [Value.ref p.1] (setAdd S (.ref p.1)) >>= _) _ _ s'
    apply wpAny_bind
    apply wpAny_holding
    unfold setAdd
    apply wpAny_holding
    apply wpAny_bind
    refine pyHash_key p.2 _ _ s' _ here.1 (by have := here.2.1; show A.units + 1 + p.2.depth < cLine; omega) ?_
    refine b_add (s := { s' with toks := s'.toks + p.2.draws }) B' here (by show A.units + 1 + 8 < cLine; omega) (by omega) fun b h' L' es' ep' t' sb B2 c1 c2 => ?_
    have g' : GotB ks (i + 1) L' := by
      by_cases c : p.2 ∈ L.map (·.2)
      · rw [c1 c]
        exact g.old hp c
      · exact g.new hp (c2 c)
    have kp2 : ∀ b o, h0.get? b = some o → h'.get? b = some o := fun b o e => (sb.2 b fun z => by rw [z, s0] at e; cases e).trans (kp' b o e)
    refine wpAny_pure ⟨plainId_quiet F.plain_set_update_loop _, ih (i + 1) _ (by omega) (by omega) (W.frame _ s' _ _ st' (Nat.le_add_right _ _) fun b hb o e => ?_) kp2 ⟨L', es', ep', t', B2, g'⟩ fun s2 L2 es2 ep2 t2 hm2 B3 g2 kp3 => ?_⟩
    · exact (sb.2 b fun z => sf (z ▸ hb)).trans e
    · refine q s2 L2 es2 ep2 t2 (Moved.trans W.gtrans ((hm.mono more).then_heap (Nat.le_add_right _ _) fun b o hb e => ?_) hm2) B3 g2 kp3
      exact (sb.2 b fun z => hb (by rw [z]; exact List.mem_cons_self)).trans e
/-- the object that set() is -/
abbrev freshB (w : World) : Obj := { cls := .type "set", dict := none, data := .set #[] 0 (.fresh 0 0 (!w.params.followText "set-order")) }
set_option maxRecDepth 100000 in
set_option maxHeartbeats 3200000 in
theorem b_make {l : Addr} {items : Array Value} (ks : BL) {Q : Value → Shared → Prop} (hh : A.handled = none) (hl : s.heap.IsList l items) (hit : items.toList = ks.map fun p => Value.ref p.1)
    (its : ∀ p ∈ ks, BIs s.heap p.2 p.1) (few : ks.length ≤ mostB) (hu : A.units + 12 < cLine)
    (q : ∀ (h' : Heap) (tk : Nat) L es ep t, BSet w h' s.heap.objs.size L es ep t → GotB ks ks.length L → (∀ b o, s.heap.get? b = some o → h'.get? b = some o) → Q (.ref s.heap.objs.size) { s with heap := h', toks := tk }) :
    wpAny (model P w) A (call (.type "set") [.ref l]) Q E s := by
  have len : items.size = ks.length := by
    rw [← Array.length_toList, hit, List.length_map]
  obtain ⟨c0, tl, mro⟩ := F.called_set.mro
  have made := F.called_set.made
  have sub := F.called_set.sub
  refine wpAny_call (codeAny_of_tree ?_)
  show wpAny _ _ (callAny (.type "set") _) _ _ _
  refine wpAny_pure ⟨Code.quiet_builtin _ (by decide +kernel), codeAny_builtin F.entry_type_call ?_⟩
  rw [Around.under_plain (weight_type_call_type "set" [.ref l] []) rfl]
  have u1 := F.called_set.notType
  have u2 := F.called_set.canCreate
  have u3 := F.typeCall_set_1 (.ref l)
  repeat (any_goals (first | assumption | wp_step))
  refine codeAny_mono (code_set_led1 (.ref l) (E := E) (Q₁ := fun v s1 => v = .ref s.heap.objs.size ∧ s1 = { s with heap := s.heap.push (freshB w) }) ⟨rfl, rfl⟩) fun r s1 hr => ?_
  match r, hr with
  | .error e, hr => exact hr
  | .ok (.ret v), ⟨e1, e2⟩ =>
    subst e1 e2
    have new : (s.heap.push (freshB w)).get? s.heap.objs.size = some (freshB w) := Heap.get?_push_size _ rfl
    have ty : Shared.TypeIs { s with heap := s.heap.push (freshB w) } (.ref s.heap.objs.size) "set" := ⟨_, new, rfl⟩
    have u4 := F.called_set.init.lookup
    have u5 := F.called_set.init.bind (.ref s.heap.objs.size)
    repeat (any_goals (first | assumption | wp_step))
    refine codeAny_mono (codeAny_call_builtin (R := wants (fun r s2 => r = .none ∧ ∃ h' tk L es ep t, s2 = { s with heap := h', toks := tk } ∧ BSet w h' s.heap.objs.size L es ep t ∧ GotB ks ks.length L ∧
        (∀ b o, s.heap.get? b = some o → h'.get? b = some o)) E) F.called_set.init.plain F.entry_set_init (check_set_init_1 ty ?_)) fun r2 s2 hr2 => ?_
    · obtain ⟨ol, g1, g2, nl, g3⟩ := hl
      obtain ⟨ocls, odict, odata, oslots⟩ := ol
      simp only at g2 g3
      subst g2
      subst g3
      have lt : l < s.heap.objs.size := Heap.lt_size g1
      have gl : (s.heap.push (freshB w)).get? l = some { cls := .type "list", dict := odict, data := .seq items nl, slots := oslots } := Heap.get?_push_of_some _ g1
      have v1 := F.sub_list_set
      have v2 := F.sub_list_frozenset
      have v3 : (Value.type "list" == Value.type "dict") = false := by decide
      have isl : (s.heap.push (freshB w)).IsList l items := ⟨_, gl, rfl, nl, rfl⟩
      unfold Builtin.«set.__init__» noKeywords Builtin.Frozenset.updateFrom
      generalize hPI : pyIter = PI
      wp_walk
      subst hPI
      refine wpAny_pyIter_list isl ?_
      apply wpAny_bind
      refine wpAny_runValue ?_
      have h3 : A.in1.in1.in1.handled = none := by simp [hh]
      have far : l ≠ (s.heap.push (freshB w)).objs.size := by
        rw [Heap.size_push]
        exact Nat.ne_of_lt (Nat.lt_succ_of_lt lt)
      have none_of : ∀ b, s.heap.objs.size ≤ b → s.heap.get? b = none := fun b hb => by
        cases z : s.heap.get? b with
        | none => rfl
        | some o => exact absurd (Heap.lt_size z) (Nat.not_lt_of_le hb)
      refine b_update ((Walks.list h3 _ l far items).toS) s.heap.objs.size ?_ ks len few (fun i v hv => ?_) s.heap its (none_of _ (Nat.le_refl _)) (fun b hb => none_of b ?_) (by show A.units + 1 + 1 + 9 < cLine; omega)
        (items.size - 0) 0 _ (by omega) (Nat.zero_le _) ⟨⟨_, Heap.get?_push_size _ rfl, rfl, rfl⟩, isl.push _⟩ (fun b o e => Heap.get?_push_of_some _ (Heap.get?_push_of_some _ e))
        ⟨[], #[], 0, _, bset_new (Heap.get?_push_of_some _ new), ⟨fun p hp => (by cases hp), fun p hp => (by simp at hp), Nat.le_refl _⟩⟩ fun s' L es ep t hm B g kp => ?_
      · rw [Heap.size_push]
        simp only [List.mem_cons, List.not_mem_nil, or_false, not_or]
        exact ⟨Nat.ne_of_lt (Nat.lt_succ_self _), Nat.ne_of_gt lt⟩
      · have z : items.toList[i]? = some v := by rw [Array.getElem?_toList]; exact hv
        rw [hit, List.getElem?_map] at z
        obtain ⟨p, hp, e⟩ := Option.map_eq_some_iff.mp z
        exact ⟨p, hp, e.symm⟩
      · rw [List.mem_singleton.mp hb, Heap.size_push]
        exact Nat.le_succ _
      · obtain ⟨h', g', d', tk', os'⟩ := s'
        obtain rfl : g' = s.gens := hm.gens
        obtain rfl : d' = s.drawn := hm.drawn
        obtain rfl : os' = s.os := hm.os
        show wpAny _ _ _ _ _ _
        apply wpAny_pure
        show wpAny _ _ (ret Value.none) _ _ _
        rw [len] at g
        exact wpAny_pure ⟨rfl, h', tk', L, es, ep, t, rfl, B, g, kp⟩
    · match r2, hr2 with
      | .error e, hr2 => exact hr2
      | .ok (.ret v), ⟨e1, h', tk, L, es, ep, t, e2, B, g, kp⟩ =>
        subst e1 e2
        repeat (any_goals (first | assumption | wp_step))
        exact q _ _ _ _ _ _ B g kp
end bmake
/-! ### tuples of ints sorted, at any length -/
/-- the order of tuples of ints -/
def lexB : List Int → List Int → Bool
  | [], [] => false
  | [], _ :: _ => true
  | _ :: _, [] => false
  | x :: r, y :: t => decide (x < y) || (decide (x = y) && lexB r t)
theorem lexB_items : ∀ a b : List Int, PyProof.Rows.lexLt PyProof.Rows.itemOrd (a.map Sum.inl) (b.map Sum.inl) = lexB a b
  | [], [] => rfl
  | [], _ :: _ => rfl
  | _ :: _, [] => rfl
  | x :: r, y :: t => by
    show (decide (x < y) || (!decide (y < x) && PyProof.Rows.lexLt PyProof.Rows.itemOrd (r.map Sum.inl) (t.map Sum.inl))) = (decide (x < y) || (decide (x = y) && lexB r t))
    rw [lexB_items r t]
    rcases Int.lt_trichotomy x y with z | z | z
    · simp [z]
    · subst z
      simp
    · have z1 : ¬ x < y := by omega
      have z2 : ¬ x = y := by omega
      simp [z, z1, z2]
theorem lexB_self : ∀ a : List Int, lexB a a = false
  | [] => rfl
  | x :: r => by simp [lexB, lexB_self r]
theorem lexB_eq : ∀ a b : List Int, lexB a b = false → lexB b a = false → a = b
  | [], [], _, _ => rfl
  | [], _ :: _, h, _ => nomatch h
  | _ :: _, [], _, h => nomatch h
  | x :: r, y :: t, h, h' => by
    simp only [lexB, Bool.or_eq_false_iff, decide_eq_false_iff_not, Bool.and_eq_false_imp, decide_eq_true_eq] at h h'
    obtain rfl : x = y := by omega
    rw [lexB_eq r t (h.2 rfl) (h'.2 rfl)]
/-- there is one such order only -/
theorem lexB_one : ∀ {l k : List (List Int)}, l.Perm k → l.Pairwise (fun x y => lexB y x = false) → k.Pairwise (fun x y => lexB y x = false) → l = k
  | [], k, p, _, _ => (List.nil_perm.mp p).symm
  | x :: l, [], p, _, _ => absurd p.length_eq (by simp)
  | x :: l, y :: k, p, hl, hk => by
    obtain ⟨l1, l2⟩ := List.pairwise_cons.mp hl
    obtain ⟨k1, k2⟩ := List.pairwise_cons.mp hk
    have e : x = y := by
      rcases List.mem_cons.mp (p.mem_iff.mp List.mem_cons_self) with z | z
      · exact z
      rcases List.mem_cons.mp (p.mem_iff.mpr List.mem_cons_self) with z2 | z2
      · exact z2.symm
      exact lexB_eq _ _ (k1 x z) (l1 y z2)
    subst e
    rw [lexB_one ((List.perm_cons x).mp p) l2 k2]
theorem perm_unmap {α β : Type} {f : α → β} {l k : List β} (p : l.Perm k) : ∀ M : List α, k = M.map f → ∃ M' : List α, M'.Perm M ∧ l = M'.map f := by
  induction p with
  | nil => exact fun M e => ⟨M, .refl _, e⟩
  | cons x p ih =>
    rintro (_ | ⟨y, M⟩) e
    · cases e
    · rw [List.map_cons] at e
      injection e with e1 e2
      obtain ⟨M', a1, a2⟩ := ih M e2
      exact ⟨y :: M', a1.cons y, by rw [List.map_cons, e1, a2]⟩
  | swap x y l =>
    rintro (_ | ⟨y', _ | ⟨x', M⟩⟩) e
    · cases e
    · cases e
    · simp only [List.map_cons, List.cons.injEq] at e
      exact ⟨x' :: y' :: M, .swap .., by rw [List.map_cons, List.map_cons, e.1, e.2.1, e.2.2]⟩
  | trans p1 p2 ih1 ih2 =>
    intro M e
    obtain ⟨M2, a1, a2⟩ := ih2 M e
    obtain ⟨M1, b1, b2⟩ := ih1 M2 a2
    exact ⟨M1, b1.trans a1, b2⟩
section bsort
variable {P : Program} {w : World} {A : Around} {E : Value → Shared → Prop} {s : Shared}
abbrev ML := List (Addr × List Int)
theorem items_key : ∀ {vs : List Value} {ns : List Int} (i : Nat), IntsAre vs ns → PyProof.Rows.tupItems (fun _ => false) i vs = some (ns.map Sum.inl)
  | _, _, _, .nil => rfl
  | _, _, i, .cons n t r => by
    simp only [PyProof.Rows.tupItems, Bool.false_eq_true, if_false]
    rw [items_key (i + 1) r]
    rfl
theorem tup_keyed {h : Heap} {k : List Int} {b : Addr} (x : IsT P w h k b) : PyProof.Rows.G.tupKeyC h (fun _ => false) (.ref b) = some (k.map Sum.inl) := by
  obtain ⟨o, items, n, ho, hc, hd, hi⟩ := x
  have e : PyProof.Rows.G.isTupObj h (.ref b) = true := by simp [PyProof.Rows.G.isTupObj, ho, hc]
  unfold PyProof.Rows.G.tupKeyC
  rw [if_pos e]
  simp only [PyProof.Rows.tupKey, ho, hd]
  exact items_key 0 (ints_of_items hi)
theorem tups_of {h : Heap} : ∀ {M : ML}, (∀ p ∈ M, IsT P w h p.2 p.1 ∧ 1 ≤ p.2.length) → ∃ fs, PyProof.Rows.TupsOf h (fun _ => false) (M.map fun p => Value.ref p.1) fs ∧ fs.length = M.length
  | [], _ => ⟨[], .nil, rfl⟩
  | p :: M, hM => by
    obtain ⟨fs, f1, f2⟩ := tups_of fun q hq => hM q (List.mem_cons_of_mem _ hq)
    obtain ⟨⟨o, items, n, ho, hc, hd, hi⟩, pos⟩ := hM p List.mem_cons_self
    have is := ints_of_items hi
    obtain ⟨z, rest, e⟩ : ∃ z rest, p.2 = z :: rest := by
      cases h2 : p.2 with
      | nil =>
        rw [h2] at pos
        exact absurd pos (by decide)
      | cons z r => exact ⟨z, r, rfl⟩
    rw [e] at is
    obtain ⟨t, vs, e2⟩ : ∃ t vs, items.toList = .int z t :: vs := by
      generalize items.toList = l at is
      cases is with
      | cons _ t _ => exact ⟨t, _, rfl⟩
    refine ⟨.int z t :: fs, .cons ⟨p.1, o, items, n, rfl, ho, hc, hd, ?_, fun _ => ⟨_, _, rfl⟩, fun c => nomatch c⟩ f1, by rw [List.length_cons, List.length_cons, f2]⟩
    rw [← Array.getElem?_toList, e2]
    rfl
theorem b_sort {a : Addr} {n : Nat} {R : PySem.Fin → Shared → Prop} (M : ML) (ho : s.heap.get? a = some (seqObj "list" (M.map fun p => Value.ref p.1).toArray n)) (its : ∀ p ∈ M, IsT P w s.heap p.2 p.1) (small : M.length ≤ 1 ∨ ∀ p ∈ M, 1 ≤ p.2.length) (hL : M.length ≤ sizeLine)
    (q : ∀ (out : Array Value) (M' : ML), out.toList = M'.map (fun p => Value.ref p.1) → M'.Perm M → M'.Pairwise (fun x y => lexB y.2 x.2 = false) → R (.done (.ret .none)) { s with heap := sortedHeap s.heap a (M.map fun p => Value.ref p.1) out }) :
    wpAny (model P w) A (Builtin.«list.sort» ⟨[.ref a], []⟩) R E s := by
  have kp := PyProof.Rows.G.keeps_sort6 (vs := M.map fun p => Value.ref p.1) ho
  refine PyProof.Rows.G.list_sort_treeG ho (κ := PyProof.Rows.G.tupKindC s.heap fun _ => false) (PyProof.Rows.G.tupKeys fun v hv => ?_) (PyProof.Rows.G.tupC_ltAt (s := { s with heap := PyProof.Rows.G.sortHeap6 s.heap a (M.map fun p => Value.ref p.1) }) true kp)
    (fun h2 Q hq => ?_) (by rw [List.length_map]; exact hL) fun st' p1 p2 _ => ?_
  · obtain ⟨p, hp, rfl⟩ := List.mem_map.mp hv
    exact ⟨_, tup_keyed (its p hp)⟩
  · rw [List.length_map] at h2
    rcases small with z | z
    · omega
    obtain ⟨fs, f1, f2⟩ := tups_of fun p hp => ⟨its p hp, z p hp⟩
    exact PyProof.Rows.tup_kind (s := { s with heap := PyProof.Rows.G.sortHeap6 s.heap a (M.map fun p => Value.ref p.1) }) (by omega) (PyProof.Rows.G.TupsOf.keep kp f1) hq
  · have pl := Array.perm_iff_toList_perm.mp p1
    rw [pairsOf_toList] at pl
    have ez : (M.map fun p => Value.ref p.1).zip (M.map fun p => Value.ref p.1) = M.map fun p => (Value.ref p.1, Value.ref p.1) := by
      rw [List.zip_map', ]
    obtain ⟨M', m1, m2⟩ := perm_unmap pl M ez
    have sz : (arrOf st').size = M'.length := by rw [← Array.length_toList, m2, List.length_map]
    refine q _ M' ?_ m1 (List.pairwise_iff_getElem.mpr fun i j hi hj lt => ?_)
    · rw [Array.toList_map, m2, List.map_map]
      rfl
    · have e := p2 i j (Nat.le_of_lt lt) (by rw [pairsOf_size, List.length_map, ← m1.length_eq]; exact hj)
      have key : ∀ i (hi : i < M'.length), PyProof.Rows.KK (PyProof.Rows.G.tupKindC s.heap fun _ => false) (arrOf st') i = (M'[i]).2.map Sum.inl := fun i hi => by
        have g : (arrOf st')[i]? = some (Value.ref (M'[i]).1, Value.ref (M'[i]).1) := by
          rw [← Array.getElem?_toList, m2, List.getElem?_map, List.getElem?_eq_getElem hi]
          rfl
        unfold PyProof.Rows.KK
        rw [g]
        show (PyProof.Rows.G.tupKeyC s.heap (fun _ => false) (Value.ref (M'[i]).1)).getD [] = _
        rw [tup_keyed (its _ (m1.mem_iff.mp (List.getElem_mem hi)))]
        rfl
      have e2 : PyProof.Rows.lexLt PyProof.Rows.itemOrd (PyProof.Rows.KK (PyProof.Rows.G.tupKindC s.heap fun _ => false) (arrOf st') j) (PyProof.Rows.KK (PyProof.Rows.G.tupKindC s.heap fun _ => false) (arrOf st') i) = false := e
      rw [key i hi, key j hj, lexB_items] at e2
      exact e2
end bsort
/-! ### sets of such keys in the heap's words -/
mutual
theorem nk_only {H : Hp} : ∀ (k : NestedKey) (v : V), NkAt H k v → onlyN k = true
  | .none, _, h => nomatch h
  | .text _, _, h => nomatch h
  | .num _, _, _ => rfl
  | .tup ks, _, h => by
    cases h with
    | tup e hs => exact nks_only ks _ hs
theorem nks_only {H : Hp} : ∀ (ks : List NestedKey) (vs : List V), NkAll H ks vs → onlyNs ks = true
  | [], _, _ => rfl
  | k :: ks, _, h => by
    cases h with
    | cons h1 h2 =>
      simp only [onlyNs, Bool.and_eq_true]
      exact ⟨nk_only k _ h1, nks_only ks _ h2⟩
end
structure BSet0 (w : World) (h : Heap) (a : Addr) (L : BL) : Prop where
  ex : ∃ (es : Array (Int × Value)) (ep : Nat) (t : SetTable), (∃ o, h.get? a = some o ∧ o.ExactSet ∧ o.data = .set es ep t) ∧ es.toList = bRows w L ∧ TabG t (L.map fun p => p.2.hash w) ∧ (L.map (·.2)).Nodup ∧ t.plain = true ∧
    (w.params.followText "set-order" = true ∨ t.led = true) ∧ L.length * 5 < t.mask * 3 ∧ L.length ≤ mostB
def BSO (w : World) (a : Addr) (L : BL) : HO := .ext fun h => BSet0 w h a L
theorem BSet.bare {w : World} {h : Heap} {a : Addr} {L : BL} {es : Array (Int × Value)} {ep : Nat} {t : SetTable} (R : BSet w h a L es ep t) : BSet0 w h a L := ⟨es, ep, t, R.ob, R.rows, R.tab, R.nd, R.plain, R.led, R.room, R.few⟩
theorem bso_ok {P : Program} {w : World} {H : Hp} {h : Heap} {a : Addr} {L : BL} (R : BSet0 w h a L) : ObjOk P w H h a (BSO w a L) := by
  have ⟨_, _, _, ⟨o, ho, _⟩, _⟩ := R.ex
  refine ⟨R, ⟨o, ho⟩, fun h1 h2 p k => ?_⟩
  have ⟨es', ep', t', ⟨o', g1, g2⟩, g3⟩ := BSet0.ex p
  exact ⟨es', ep', t', ⟨o', k o' g1, g2⟩, g3⟩
section bsrules
variable {X : Cx}
/-- the tuple at x is the key k -/
def KAt (H : Hp) (k : NestedKey) (x : Addr) : Prop := NkAt H k (.ref x) ∧ k.depth ≤ 8
structure BSt (w : World) (H : Hp) (a : Addr) (L : BL) : Prop where
  ob : H a = some (BSO w a L)
  its : ∀ p ∈ L, KAt H p.2 p.1
theorem KAt.is {pins : List (Addr × Obj)} {σ : L2.St} {H : Hp} {s : Shared} {k : NestedKey} {x : Addr} (I : Inv X pins σ H s) (h : KAt H k x) : BIs s.heap k x := ⟨nk_is I _ _ _ h.1 rfl, h.2, nk_only _ _ h.1⟩
theorem KAt.stay {H H' : Hp} {k : NestedKey} {x : Addr} (h : KAt H k x) (t : TupsStay H H') : KAt H' k x := ⟨nk_stay t _ _ h.1, h.2⟩
theorem BSt.full {pins : List (Addr × Obj)} {σ : L2.St} {H : Hp} {s : Shared} {a : Addr} {L : BL} (I : Inv X pins σ H s) (h : BSt X.w H a L) : ∃ es ep t, BSet X.w s.heap a L es ep t := by
  have R0 : BSet0 X.w s.heap a L := (I.hok a _ h.ob).1
  obtain ⟨es, ep, t, g1, g2, g3, g4, g5, g6, g7, g8⟩ := R0.ex
  exact ⟨es, ep, t, g1, g2, g3, g4, fun p hp => (h.its p hp).is I, g5, g6, g7, g8⟩
theorem BSt.stay {w : World} {H H' : Hp} {a : Addr} {L : BL} (h : BSt w H a L) (e : H' a = some (BSO w a L)) (t : TupsStay H H') : BSt w H' a L := ⟨e, fun p hp => (h.its p hp).stay t⟩
theorem BSt.same {w : World} {H H' : Hp} {a : Addr} {L : BL} (h : BSt w H a L) (s : Same H H') : BSt w H' a L := h.stay (s _ _ h.ob) (Same.tups s)
/-- set() -/
def rBNew (w : World) : List V → Hp → VK → Prop := fun xs H Q => xs = [] ∧ ∀ p, H p = none → Q (.ref p) (upd H p (BSO w p []))
theorem cr_bnew : CallR X (.type "set") (rBNew X.w) := by
  intro pins s σ H xs us Q I r h
  obtain ⟨rfl, q⟩ := h
  cases r
  refine setR_new fun _ => ?_
  have new := bset_new (w := X.w) (h := s.heap.push (freshB X.w)) (a := s.heap.objs.size) (Heap.get?_push_size _ rfl)
  exact ⟨.ref _, upd H s.heap.objs.size (BSO X.w s.heap.objs.size []), I.laid (t' := s.toks) (fun b u e => Heap.get?_push_of_some _ e) (Nat.le_refl _) (bso_ok new.bare), rfl, q _ (I.hok.fresh (Nat.le_refl _))⟩
/-- set(xs) -/
def rBOf (K : PySem.W.Frag) (w : World) : List V → Hp → VK → Prop := fun xs H Q => ∃ (l : Addr) (ks : BL), xs = [V.ref l] ∧ SqL K H l (ks.map fun p => V.ref p.1) ∧ (∀ p ∈ ks, KAt H p.2 p.1) ∧ ks.length ≤ mostB ∧
  ∀ a L, H a = none → (∀ p ∈ L, p ∈ ks) → (∀ p ∈ ks, p.2 ∈ L.map (·.2)) → Q (.ref a) (upd H a (BSO w a L))
theorem brefs : ∀ {ks : BL} {us : List Value}, Vals (ks.map fun p => V.ref p.1) us → us = ks.map fun p => Value.ref p.1
  | [], _, .nil => rfl
  | p :: ks, _, .cons r t => by
    cases r
    rw [brefs t]
    rfl
theorem cr_bof (hc : X.calm = true) (hu : X.A.units + 64 < cLine) : CallR X (.type "set") (rBOf X.K X.w) := by
  intro pins s σ H xs us Q I r h
  obtain ⟨l, ks, rfl, hl, hk, few, q⟩ := h
  rw [Vals.ref1 r]
  obtain ⟨its, rv, pl, hz⟩ := I.list hl
  refine b_make (P := X.prog) ks (I.ok.hd hc) pl.isList (by simpa using brefs rv) (fun p hp => (hk p hp).is I) few (by omega) fun h' tk L es ep t R g k => ?_
  refine ⟨.ref s.heap.objs.size, upd H s.heap.objs.size (BSO X.w s.heap.objs.size L), I.laid (t' := tk) k (Nat.le_refl _) (bso_ok R.bare), rfl, q _ L (I.hok.fresh (Nat.le_refl _)) (fun p hp => List.mem_of_mem_take (g.1 p hp)) fun p hp => g.2.1 p ?_⟩
  rw [List.take_length]
  exact hp
/-- s.add(x) -/
def rBAdd (w : World) : V → List V → Hp → VK → Prop := fun x xs H Q => ∃ (a t : Addr) (k : NestedKey) (L : BL), x = .ref a ∧ xs = [.ref t] ∧ BSt w H a L ∧ KAt H k t ∧ L.length + 1 ≤ mostB ∧
  ∀ L', (k ∈ L.map (·.2) → L' = L) → (k ∉ L.map (·.2) → L'.Perm ((t, k) :: L)) → Q .non (upd H a (BSO w a L'))
theorem mt_badd (hu : X.A.units + 9 < cLine) : MtR X "set.add" (rBAdd X.w) := by
  intro pins s σ H x xs v us Q I rx rxs h
  obtain ⟨a, t, k, L, rfl, rfl, ha, hk, few, q⟩ := h
  cases rx
  cases rxs with
  | cons ry rt =>
    cases rt
    cases ry
    obtain ⟨es, ep, M, R⟩ := ha.full I
    refine b_sadd R (hk.is I) hu few fun h' L' es' ep' t' sb new z1 z2 => ?_
    obtain ⟨o, g1, _⟩ := new.ob
    exact ⟨.non, _, I.write (e := a) (t' := s.toks + k.draws) (by rw [ha.ob]; trivial) (.inl rfl) (fun b u hb hu => (sb.2 b hb).trans hu) ⟨o, g1⟩ (bso_ok new.bare), rfl, q L' z1 z2⟩
def tBAdd (w : World) (to : TE) (t : TA) : TE := fun σ H Q => to σ H fun x H1 => (∃ a L, x = V.ref a ∧ BSt w H1 a L) ∧ t σ H1 fun xs H2 => rBAdd w x xs H2 Q
theorem pe_badd {o e : Expr} {es : List Expr} {to : TE} {t : TA} {apos cpos : Pos} (hu : X.A.units + 9 < cLine) (ho : PE X o to) (ha : PA X (e :: es) t)
    (c1 : attributeBase o "add" X.env (eval o X.env) = eval o X.env := by rfl)
    (c2 : ((backTo cpos (starEach (e :: es) X.env)).all (fun x => !x.1) && (backToKw cpos (keywordEach [] X.env)).all (fun x => x.1.isSome) && decide ((e :: es).length + ([] : List Keyword).length + (if ([] : List Keyword).isEmpty then 0 else 1) < 30)) = true := by rfl)
    (c3 : (apos.endLine == cpos.line) = true := by rfl) (c4 : starEach (e :: es) X.env = (false, eval e X.env) :: starEach es X.env := by rfl) (c5 : (backTo cpos (starEach es X.env)).any (·.1) = false := by rfl) :
    PE X (.Call (.Attribute o "add" apos) (e :: es) [] cpos) (tBAdd X.w to t) := by
  constructor
  intro pins s σ H Q I h
  refine wpAny_Call_method_late c1 c2 c3 rfl (thn (ho.run pins s σ H _ I h) fun v s1 ⟨x, H1, I1, r1, ty, q1⟩ => ?_)
  obtain ⟨a, L, rfl, hka⟩ := ty
  obtain ⟨es', ep, M, R⟩ := hka.full I1
  cases r1
  obtain ⟨ob, g1, g2, g3⟩ := R.ob
  refine ⟨"set", "set.add", F.plainAttrs_set, F.slot_set_add, F.type_set_add, R.ty, (fun z e => ⟨ob, by injection e with e; rw [← e]; exact g1, g2.2.1⟩), ?_⟩
  have hA := ha.run cpos pins s1 σ H1 _ I1 q1
  rw [c4] at hA ⊢
  refine Calls.callWith_builtin (by show (false || (backTo cpos (starEach es X.env)).any (·.1)) = false; rw [c5]; rfl) (Calls.evalArgs_plain ?_)
  exact thn hA fun us s2 ⟨vs, H2, I2, r2, q2⟩ => mt_badd hu pins s2 σ H2 (.ref a) vs (.ref a) us Q I2 rfl r2 q2
/-- x in s, x not in s -/
def rBIn (w : World) (neg : Bool) : V → V → Hp → VK → Prop := fun x y H Q => ∃ (a t : Addr) (k : NestedKey) (L : BL), x = .ref t ∧ y = .ref a ∧ BSt w H a L ∧ KAt H k t ∧ Q (.bl (if neg then !decide (k ∈ L.map (·.2)) else decide (k ∈ L.map (·.2)))) H
theorem or_bin (hu : X.A.units + 9 < cLine) : OpR X (compareOp .In) (rBIn X.w false) := by
  intro pins s σ H x y v u Q I rx ry h
  obtain ⟨a, t, k, L, rfl, rfl, ha, hk, q⟩ := h
  cases rx
  cases ry
  obtain ⟨es, ep, M, R⟩ := ha.full I
  show wpAny _ _ (do return Value.bool (← contains (.ref a) (.ref t))) _ _ s
  apply wpAny_bind
  exact b_ask R (hk.is I) hu (wpAny_pure ⟨.bl _, H, I.tok _, rfl, q⟩)
theorem or_bnotin (hu : X.A.units + 9 < cLine) : OpR X (compareOp .NotIn) (rBIn X.w true) := by
  intro pins s σ H x y v u Q I rx ry h
  obtain ⟨a, t, k, L, rfl, rfl, ha, hk, q⟩ := h
  cases rx
  cases ry
  obtain ⟨es, ep, M, R⟩ := ha.full I
  show wpAny _ _ (do return Value.bool (!(← contains (.ref a) (.ref t)))) _ _ s
  apply wpAny_bind
  exact b_ask R (hk.is I) hu (wpAny_pure ⟨.bl _, H, I.tok _, rfl, q⟩)
end bsrules
/-! ### sorted of a set, of a list: flat tuples, of any number -/
section bsorted
variable {P : Program} {w : World} {A : Around} {E : Value → Shared → Prop} {s : Shared} {a : Addr} {L : BL} {es : Array (Int × Value)} {ep : Nat} {t : SetTable}
def flatK (ns : List Int) : NestedKey := .tup (ns.map .num)
theorem flatK_inj {x y : List Int} (h : flatK x = flatK y) : x = y := by
  injection h with h
  have z : ∀ {x y : List Int}, x.map NestedKey.num = y.map NestedKey.num → x = y := by
    intro x
    induction x with
    | nil =>
      rintro (_ | ⟨b, y⟩) e
      · rfl
      · cases e
    | cons a x ih =>
      rintro (_ | ⟨b, y⟩) e
      · cases e
      · rw [List.map_cons, List.map_cons] at e
        injection e with e1 e2
        injection e1 with e1
        rw [e1, ih e2]
  exact z h
abbrev keyed (M : ML) : BL := M.map fun p => (p.1, flatK p.2)
theorem vref_perm {M : ML} {vs : List Value} (h : vs.Perm (M.map fun p => Value.ref p.1)) : ∃ M' : ML, M'.Perm M ∧ vs = M'.map fun p => Value.ref p.1 := perm_unmap h M rfl
/-- what sorting a new list of them leaves -/
theorem sorted_end {M : ML} {vs : List Value} (small : M.length ≤ 1 ∨ ∀ p ∈ M, 1 ≤ p.2.length) (hL : M.length ≤ sizeLine) (its : ∀ p ∈ M, IsT P w s.heap p.2 p.1) (pm : vs.Perm (M.map fun p => Value.ref p.1)) {Q : Value → Shared → Prop}
    (q : ∀ h' (out : Array Value) (c : Nat) (M' : ML), (∀ b o, s.heap.get? b = some o → h'.get? b = some o) → h'.get? s.heap.objs.size = some (seqObj "list" out c) → out.toList = M'.map (fun p => Value.ref p.1) → M'.Perm M → M'.Pairwise (fun x y => lexB y.2 x.2 = false) → Q (.ref s.heap.objs.size) { s with heap := h' }) :
    wpAny (model P w) A (newList vs >>= fun l => holding [l] (call (.builtin "list.sort") [l]) >>= fun _ => ret l) (fun f s' => ∃ r, f = .done (.ret r) ∧ Q r s') E s := by
  obtain ⟨M1, m1, rfl⟩ := vref_perm pm
  have l1 := m1.length_eq
  apply wpAny_bind
  refine wpAny_newList ?_ (by rw [List.length_map]; omega)
  have hoL : (s.heap.push (seqObj "list" (M1.map fun p => Value.ref p.1).toArray 0)).get? s.heap.objs.size = some (seqObj "list" (M1.map fun p => Value.ref p.1).toArray 0) := Heap.get?_push_size _ rfl
  apply wpAny_bind
  apply wpAny_holding
  refine wpAny_call_entry slot_list_sort ⟨_, hoL, rfl⟩ entry_list_sort ?_ (args_list_sort _)
  refine b_sort (s := { s with heap := s.heap.push (seqObj "list" (M1.map fun p => Value.ref p.1).toArray 0) }) M1 hoL (fun p hp => isT_keep (its p (m1.mem_iff.mp hp)) fun b u e => Heap.get?_push_of_some _ e) ?_ (by omega) fun out M' e1 e2 e3 => ⟨_, rfl, ?_⟩
  · rcases small with z | z
    · exact .inl (by omega)
    · exact .inr fun p hp => z p (m1.mem_iff.mp hp)
  obtain ⟨c, hc⟩ := sortedHeap_at (vs := M1.map fun p => Value.ref p.1) (out := out) hoL
  refine wpAny_pure ⟨_, rfl, q _ out c M' (fun b u e => ?_) hc e1 (e2.trans m1) e3⟩
  have lt := Heap.lt_size e
  show (sortedHeap (s.heap.push (seqObj "list" (M1.map fun p => Value.ref p.1).toArray 0)) s.heap.objs.size (M1.map fun p => Value.ref p.1) out).get? b = some u
  rw [sortedHeap_old (Nat.ne_of_lt lt) (by rw [size_push']; exact Nat.lt_succ_of_lt lt)]
  exact Heap.get?_push_of_some _ e
theorem b_sorted {M : ML} (R : BSet w s.heap a (keyed M) es ep t) (hh : A.handled = none) (small : M.length ≤ 1 ∨ ∀ p ∈ M, 1 ≤ p.2.length) (few : M.length < 4096) (its : ∀ p ∈ M, IsT P w s.heap p.2 p.1) {Q : Value → Shared → Prop}
    (q : ∀ s' p (out : Array Value) (c : Nat) (M' : ML), (∀ b o, s.heap.get? b = some o → s'.heap.get? b = some o) → s'.gens = s.gens → s'.os = s.os → s.heap.objs.size ≤ p →
      s'.heap.get? p = some (seqObj "list" out c) → out.toList = M'.map (fun p => Value.ref p.1) → M'.Perm M → M'.Pairwise (fun x y => lexB y.2 x.2 = false) → Q (.ref p) s') :
    wpAny (model P w) A (call (.builtin "sorted") [.ref a]) Q E s := by
  obtain ⟨o, g1, g2, g3⟩ := R.ob
  have sz := rows_size R.rows
  rw [List.length_map] at sz
  refine Calls.call_function_entry kind_sorted plain_sorted entry_sorted (args_sorted1 _) ?_
  unfold Builtin.«sorted»
  refine wpAny_bind (m := checkCount "sorted" 1 1 _) ?_
  apply wpAny_pure
  apply wpAny_bind
  refine collect_set (A := A.in1) hh ⟨o, g1, g2.1, g3⟩ R.fits (by unfold scanBound; omega) R.tab.up R.led fun s1 vs k1 hz gz oz pm => ?_
  have hes : es.toList.map (·.2) = M.map fun z => Value.ref z.1 := by
    rw [R.rows]
    unfold bRows keyed
    rw [List.map_map, List.map_map]
    rfl
  rw [hes] at pm
  refine sorted_end (M := M) (vs := vs) (s := s1) small (by rw [sizeLine_eq]; omega) (fun p hp => isT_keep (its p hp) k1) pm fun h' out c M' k2 e1 e2 e3 e4 => ?_
  exact q _ _ out c M' (fun b u e => k2 b u (k1 b u e)) gz oz hz e1 e2 e3 e4
/-- sorted of a list of them -/
theorem l_sorted {M : ML} {l : Addr} (hl : s.heap.IsList l (M.map fun p => Value.ref p.1).toArray) (small : M.length ≤ 1 ∨ ∀ p ∈ M, 1 ≤ p.2.length) (few : M.length < 4096) (its : ∀ p ∈ M, IsT P w s.heap p.2 p.1) {Q : Value → Shared → Prop}
    (q : ∀ h' p (out : Array Value) (c : Nat) (M' : ML), (∀ b o, s.heap.get? b = some o → h'.get? b = some o) → s.heap.objs.size ≤ p →
      h'.get? p = some (seqObj "list" out c) → out.toList = M'.map (fun p => Value.ref p.1) → M'.Perm M → M'.Pairwise (fun x y => lexB y.2 x.2 = false) → Q (.ref p) { s with heap := h' }) :
    wpAny (model P w) A (call (.builtin "sorted") [.ref l]) Q E s := by
  refine Calls.call_function_entry kind_sorted plain_sorted entry_sorted (args_sorted1 _) ?_
  unfold Builtin.«sorted»
  refine wpAny_bind (m := checkCount "sorted" 1 1 _) ?_
  apply wpAny_pure
  apply wpAny_bind
  refine collect_list hl ?_ (by rw [List.length_map, sizeLine_eq]; omega)
  have k1 : ∀ b o, s.heap.get? b = some o → ((s.heap.push (seqObj "list" #[] 0)).update s.heap.objs.size (Obj.mapSeq (· ++ (M.map fun p => Value.ref p.1).toArray))).get? b = some o := fun b o e => by
    rw [Heap.get?_update_ne _ _ _ _ (Nat.ne_of_lt (Heap.lt_size e))]
    exact Heap.get?_push_of_some _ e
  have hz : s.heap.objs.size ≤ ((s.heap.push (seqObj "list" #[] 0)).update s.heap.objs.size (Obj.mapSeq (· ++ (M.map fun p => Value.ref p.1).toArray))).objs.size := by
    rw [Heap.size_update, size_push']
    exact Nat.le_succ _
  generalize (s.heap.push (seqObj "list" #[] 0)).update s.heap.objs.size (Obj.mapSeq (· ++ (M.map fun p => Value.ref p.1).toArray)) = h1 at k1 hz ⊢
  refine sorted_end (M := M) (s := { s with heap := h1 }) small (by rw [sizeLine_eq]; omega) (fun p hp => isT_keep (its p hp) k1) (.refl _) fun h' out c M' k2 e1 e2 e3 e4 => ?_
  exact q h' _ out c M' (fun b u e => k2 b u (k1 b u e)) hz e1 e2 e3 e4
end bsorted
section bsrules2
variable {X : Cx}
abbrev mrefs (M : ML) : List V := M.map fun q => V.ref q.1
theorem mvals : ∀ (M : ML), Vals (mrefs M) (M.map fun p => Value.ref p.1)
  | [] => .nil
  | _ :: M => .cons rfl (mvals M)
theorem mvals_eq : ∀ {M : ML} {us : List Value}, Vals (mrefs M) us → us = M.map fun p => Value.ref p.1
  | [], _, .nil => rfl
  | p :: M, _, .cons r t => by
    cases r
    rw [mvals_eq t]
    rfl
def rBSorted (K : PySem.W.Frag) (w : World) : List V → Hp → VK → Prop := fun vs H Q => ∃ (a : Addr) (M : ML), vs = [V.ref a] ∧ H a = some (BSO w a (keyed M)) ∧ (∀ p ∈ M, SqT K H p.1 (p.2.map V.int)) ∧ (∃ d, ∀ p ∈ M, p.2.length = d) ∧ M.length < 4096 ∧
  ∀ (M' : ML) (p : Addr), M'.Perm M → M'.Pairwise (fun x y => lexB y.2 x.2 = false) → H p = none → Q (.ref p) (upd H p (.lst (mrefs M')))
def rLSorted (K : PySem.W.Frag) : List V → Hp → VK → Prop := fun vs H Q => ∃ (a : Addr) (M : ML), vs = [V.ref a] ∧ SqL K H a (mrefs M) ∧ (∀ p ∈ M, SqT K H p.1 (p.2.map V.int)) ∧ (M.length ≤ 1 ∨ ∀ p ∈ M, 1 ≤ p.2.length) ∧ M.length < 4096 ∧
  ∀ (M' : ML) (p : Addr), M'.Perm M → M'.Pairwise (fun x y => lexB y.2 x.2 = false) → H p = none → Q (.ref p) (upd H p (.lst (mrefs M')))
theorem flat_at {H : Hp} {x : Addr} {ns : List Int} (h : H x = some (.tup (ns.map V.int))) : KAt H (flatK ns) x := by
  have all : ∀ ns : List Int, NkAll H (ns.map .num) (ns.map V.int) := fun ns => by
    induction ns with
    | nil => exact .nil
    | cons n ns ih => exact .cons (.num n) ih
  have dp : ∀ ns : List Int, NestedKey.depthAll (ns.map .num) = 0 := fun ns => by
    induction ns with
    | nil => rfl
    | cons n ns ih => simp [NestedKey.depthAll, NestedKey.depth, ih]
  refine ⟨.tup h (all ns), ?_⟩
  show NestedKey.depthAll (ns.map .num) + 1 ≤ 8
  rw [dp]
  decide
theorem small_of {M : ML} {w : World} {h : Heap} {a : Addr} {es : Array (Int × Value)} {ep : Nat} {t : SetTable} (R : BSet w h a (keyed M) es ep t) (hd : ∃ d, ∀ p ∈ M, p.2.length = d) : M.length ≤ 1 ∨ ∀ p ∈ M, 1 ≤ p.2.length := by
  obtain ⟨d, hd⟩ := hd
  cases d with
  | succ d => exact .inr fun p hp => by rw [hd p hp]; omega
  | zero =>
    refine .inl ?_
    have nd := R.nd
    match M, nd, hd with
    | [], _, _ => exact Nat.zero_le _
    | [_], _, _ => exact Nat.le_refl _
    | p :: p' :: _, nd, hd =>
      simp only [List.map_cons, List.nodup_cons] at nd
      have e1 := List.eq_nil_of_length_eq_zero (hd p List.mem_cons_self)
      have e2 := List.eq_nil_of_length_eq_zero (hd p' (by simp))
      exact absurd (by rw [e1, e2]; exact List.mem_cons_self) nd.1
theorem cr_bsorted (hc : X.calm = true) : CallR X (.builtin "sorted") (rBSorted X.K X.w) := by
  intro pins s σ H vs us Q I r h
  obtain ⟨a, M, rfl, ha, hk, hd, few, q⟩ := h
  have R0 : BSet0 X.w s.heap a (keyed M) := (I.hok a _ ha).1
  obtain ⟨es, ep, t, g1, g2, g3, g4, g5, g6, g7, g8⟩ := R0.ex
  have its : ∀ p ∈ M, IsT X.prog X.w s.heap p.2 p.1 := fun p hp => I.isT (hk p hp)
  have R : BSet X.w s.heap a (keyed M) es ep t := ⟨g1, g2, g3, g4, fun p hp => by
    obtain ⟨m, hm, rfl⟩ := List.mem_map.mp hp
    obtain ⟨o, items, n, ho, hc2, hd2, hi⟩ := its m hm
    have all : ∀ {vs : List Value} {ns : List Int}, IntsAre vs ns → NestedAll s.heap (ns.map .num) vs := fun {vs ns} z => by
      induction z with
      | nil => exact .nil
      | cons n t _ ih => exact .cons (.int n t) ih
    have only : ∀ ns : List Int, onlyNs (ns.map .num) = true ∧ NestedKey.depthAll (ns.map .num) = 0 := fun ns => by
      induction ns with
      | nil => exact ⟨rfl, rfl⟩
      | cons n ns ih => simp [onlyNs, onlyN, NestedKey.depthAll, NestedKey.depth, ih]
    refine ⟨.tup ho hc2 hd2 (all (ints_of_items hi)), ?_, (only _).1⟩
    show NestedKey.depthAll (m.2.map .num) + 1 ≤ 8
    rw [(only _).2]
    decide, g5, g6, g7, g8⟩
  rw [Vals.ref1 r]
  refine b_sorted R (I.ok.hd hc) (small_of R hd) few its fun s' p out c M' k g o hp hg hout pm pw => ?_
  have hn : H p = none := I.hok.fresh hp
  have l1 := pm.length_eq
  have hv : Vals (mrefs M') out.toList := by rw [hout]; exact mvals M'
  have J : Inv X pins σ (upd H p (.lst (mrefs M'))) { s with heap := s'.heap, gens := s'.gens, drawn := s'.drawn, toks := s'.toks } :=
    I.call (ch := []) (Un.laid k hp hn) (I.hok.laid k hp ⟨by rw [List.length_map, sizeLine_eq]; omega, out.toList, c, hv, hg⟩) (by rw [g]; exact I.bare) (fun _ z => nomatch z)
  have e : s' = { s with heap := s'.heap, gens := s'.gens, drawn := s'.drawn, toks := s'.toks } := by
    cases s'
    cases s
    cases o
    rfl
  rw [e]
  exact ⟨.ref p, _, J, rfl, q M' p pm pw hn⟩
theorem cr_lsorted : CallR X (.builtin "sorted") (rLSorted X.K) := by
  intro pins s σ H vs us Q I r h
  obtain ⟨a, M, rfl, ha, hk, small, few, q⟩ := h
  obtain ⟨its, rv, pl, hz⟩ := I.list ha
  rw [Vals.ref1 r]
  refine l_sorted (P := X.prog) (w := X.w) (M := M) (by rw [← mvals_eq rv]; exact pl.isList) small few (fun p hp => I.isT (hk p hp)) fun h' p out c M' k hp hg hout pm pw => ?_
  have hn : H p = none := I.hok.fresh hp
  have l1 := pm.length_eq
  have hv : Vals (mrefs M') out.toList := by rw [hout]; exact mvals M'
  exact ⟨.ref p, upd H p (.lst (mrefs M')), I.laid (t' := s.toks) k hp ⟨by rw [List.length_map, sizeLine_eq]; omega, out.toList, c, hv, hg⟩, rfl, q M' p pm pw hn⟩
end bsrules2
/-! ### carries, any number of them -/
theorem iteP {c A B : Prop} [Decidable c] (h : c) (a : A) : if c then A else B := by
  rw [if_pos h]
  exact a
theorem nil_or_snoc {α : Type} (l : List α) : l = [] ∨ ∃ k x, l = k ++ [x] := by
  rcases List.eq_nil_or_concat l with h | ⟨k, x, h⟩
  · exact .inl h
  · exact .inr ⟨k, x, by rw [h, List.concat_eq_append]⟩
def snd2 (L : List (Addr × List Int)) : List (List Int) := L.map (·.2)
abbrev TAll (H : Hp) (L : List (Addr × List Int)) : Prop := ∀ q ∈ L, H q.1 = some (.tup (q.2.map V.int))
theorem tall_stay {H H' : Hp} (t : TupsStay H H') {L : List (Addr × List Int)} (h : TAll H L) : TAll H' L := fun q hq => t _ _ (h q hq)
theorem tups_set {H : Hp} {S : Addr} {L L' : List (Addr × List Int)} (h : H S = some (BSO w S (keyed L))) : TupsStay H (upd H S (BSO w S (keyed L'))) := fun b ys e => by
  rw [upd_ne (ne_of e h (fun z => by unfold BSO at z; cases z))]
  exact e
def succs (m : Nat) (ds : List Deed) (c : List Int) (n : Nat) (X : List (List Int)) : Prop := ∀ bs ∈ (allB m).take n, nxt ds c (bts ds c bs) ∈ X
/-- what has been seen while c is looked at: its first n bits are gone through -/
structure Seen (m : Nat) (ds : List Deed) (X Wt : List (List Int)) (cur : Option (List Int)) : Prop where
  nd : X.Nodup
  rch : ∀ c ∈ X, Rch m ds c
  fst : ds.map fcD ∈ X
  wt : ∀ c ∈ Wt, c ∈ X
  cu : ∀ c, cur = some c → c ∈ X
  cl : ∀ c ∈ X, some c = cur ∨ c ∈ Wt ∨ succs m ds c (2 ^ m) X
theorem Seen.few {m : Nat} {ds : List Deed} {X Wt : List (List Int)} {cur : Option (List Int)} (h : Seen m ds X Wt cur) (h5 : carN ds ≤ 8) : X.length ≤ 256 := by
  have z := pigeon X (univ ds) h.nd fun c hc => shp_univ (rch_shp (h.rch c hc))
  rw [univ_len] at z
  exact Nat.le_trans z (Nat.le_trans (Nat.pow_le_pow_right (by decide) h5) (by decide))
theorem Seen.grow {m : Nat} {ds : List Deed} {X X' Wt : List (List Int)} {c a : List Int} (h : Seen m ds X Wt (some c)) (hp : X'.Perm (a :: X)) (hn : a ∉ X) (hr : Rch m ds a) : Seen m ds X' (Wt ++ [a]) (some c) := by
  have sub : ∀ y ∈ X, y ∈ X' := fun y hy => hp.mem_iff.mpr (List.mem_cons_of_mem _ hy)
  refine ⟨hp.nodup_iff.mpr (List.nodup_cons.mpr ⟨hn, h.nd⟩), fun y hy => ?_, sub _ h.fst, fun y hy => ?_, fun y hy => sub _ (h.cu y hy), fun y hy => ?_⟩
  · rcases List.mem_cons.mp (hp.mem_iff.mp hy) with rfl | hy
    · exact hr
    · exact h.rch y hy
  · rcases List.mem_append.mp hy with hy | hy
    · exact sub _ (h.wt y hy)
    · rw [List.mem_singleton.mp hy]
      exact hp.mem_iff.mpr List.mem_cons_self
  · rcases List.mem_cons.mp (hp.mem_iff.mp hy) with rfl | hy
    · exact .inr (.inl (List.mem_append_right _ List.mem_cons_self))
    · rcases h.cl y hy with z | z | z
      · exact .inl z
      · exact .inr (.inl (List.mem_append_left _ z))
      · exact .inr (.inr fun bs hb => sub _ (z bs hb))
theorem Seen.done {m : Nat} {ds : List Deed} {X Wt : List (List Int)} {c : List Int} (h : Seen m ds X Wt (some c)) (hs : succs m ds c (2 ^ m) X) : Seen m ds X Wt none := by
  refine ⟨h.nd, h.rch, h.fst, h.wt, (fun _ z => nomatch z), fun y hy => ?_⟩
  rcases h.cl y hy with z | z | z
  · obtain rfl := Option.some.inj z
    exact .inr (.inr hs)
  · exact .inr (.inl z)
  · exact .inr (.inr z)
theorem Seen.take {m : Nat} {ds : List Deed} {X Wt : List (List Int)} {c : List Int} (h : Seen m ds X (Wt ++ [c]) none) : Seen m ds X Wt (some c) := by
  refine ⟨h.nd, h.rch, h.fst, fun y hy => h.wt y (List.mem_append_left _ hy), fun y hy => ?_, fun y hy => ?_⟩
  · obtain rfl := Option.some.inj hy
    exact h.wt _ (List.mem_append_right _ List.mem_cons_self)
  · rcases h.cl y hy with z | z | z
    · cases z
    · rcases List.mem_append.mp z with z | z
      · exact .inr (.inl z)
      · exact .inl (congrArg some (List.mem_singleton.mp z))
    · exact .inr (.inr z)
theorem Seen.all {m : Nat} {ds : List Deed} {X : List (List Int)} (h : Seen m ds X [] none) (c : List Int) : c ∈ X ↔ Rch m ds c := by
  refine ⟨h.rch c, fun hr => ?_⟩
  induction hr with
  | first => exact h.fst
  | next hr hl hb ih =>
    rcases h.cl _ ih with z | z | z
    · cases z
    · cases z
    · refine z _ ?_
      rw [← allB_len m, List.take_length]
      exact allB_all m _ hl hb
theorem seen_first (m : Nat) (ds : List Deed) : Seen m ds [ds.map fcD] [ds.map fcD] none :=
  ⟨List.nodup_cons.mpr ⟨List.not_mem_nil, List.nodup_nil⟩, fun c hc => by rw [List.mem_singleton.mp hc]; exact .first, List.mem_cons_self, fun _ h => h, (fun _ z => nomatch z), fun c hc => .inr (.inl hc)⟩
theorem carN_len (ds : List Deed) : carN ds ≤ ds.length := by
  induction ds with
  | nil => exact Nat.le_refl _
  | cons d ds ih =>
    show carN ds + (if d.1 ∈ twC then 1 else 0) ≤ ds.length + 1
    split <;> omega
theorem bst_keyed {H : Hp} {S : Addr} {L : ML} (e : H S = some (BSO w S (keyed L))) (t : TAll H L) : BSt w H S (keyed L) := ⟨e, fun p hp => by
  obtain ⟨q, hq, rfl⟩ := List.mem_map.mp hp
  exact flat_at (t q hq)⟩
theorem keyed_mem {L : ML} {c : List Int} : flatK c ∈ (keyed L).map (·.2) ↔ c ∈ L.map (·.2) := by
  rw [List.map_map]
  constructor
  · intro z
    obtain ⟨p, hp, e⟩ := List.mem_map.mp z
    exact List.mem_map.mpr ⟨p, hp, flatK_inj e⟩
  · intro z
    obtain ⟨p, hp, rfl⟩ := List.mem_map.mp z
    exact List.mem_map.mpr ⟨p, hp, rfl⟩
theorem keyed_perm {L3 : BL} {L : ML} {x : Addr} {c : List Int} (h : L3.Perm ((x, flatK c) :: keyed L)) : ∃ L' : ML, L'.Perm ((x, c) :: L) ∧ L3 = keyed L' := perm_unmap h ((x, c) :: L) rfl
def spCa : Sp := fun vs H Q _ => ∃ (R : Addr) (m : Nat) (o : Int) (ds : List Deed), vs = [.ref R] ∧ RowAt H R m ds o ∧ RowOk m ds o ∧ m ≤ 3 ∧ ds.length ≤ 8 ∧
  ∀ H' p L, Same H H' → H p = none → H' p = some (.lst (L.map fun q : Addr × List Int => V.ref q.1)) → TAll H' L → (snd2 L).Nodup → (∀ c, c ∈ snd2 L ↔ Rch m ds c) → L.Pairwise (fun q r => lexB r.2 q.2 = false) → Q (.ref p) H'
theorem ok_ca {f fF fN : Addr} {fd fdF fdN : FuncData} {k : Nat} (F : Fun K "carries" "carries" s_carries f fd)
    (GF : FnOk P w K mg base CX0 (k + 1) fF fdF ["row"] spFc) (kF : PySem.W.keepIn K (.ref fF) = true) (bF : Binds K fdF ["row"] []) (gF : mg "first_carry" = some (.ref fF))
    (GN : FnOk P w K mg base CX0 (k + 4) fN fdN ["row", "carry"] spSt) (kN : PySem.W.keepIn K (.ref fN) = true) (bN : Binds K fdN ["row", "carry"] []) (gN : mg "steps" = some (.ref fN))
    (mS : mg "set" = none) (ms : mg "sorted" = none) : FnOk P w K mg base CX0 (k + 5) f fd ["row"] spCa := by
  refine F.ok sc_carries (fun vs H Q E h => ?_) (fun cdv A outer s H vs Q E hr h => ?_)
  · obtain ⟨R, m, o, ds, rfl, _⟩ := h
    rfl
  · obtain ⟨R, m, o, ds, rfl, hrow, hok, hm3, hl8, q⟩ := h
    have h5 : carN ds ≤ 8 := Nat.le_trans (carN_len ds) hl8
    have hr1 := hr.mono (show k + 1 ≤ k + 4 by omega)
    have hu : (A.deeper (envOfC "carries" (defScope s_carries) s.heap.objs.size f cdv)).units + 9 < cLine := by
      have := hr.un
      omega
    have h0 : ∀ {H : Hp} {S : Addr} {L : ML}, H S = some (BSO w S (keyed L)) → TAll H L → BSt w H S (keyed L) := bst_keyed
    refine ⟨_, pss_cons (ps_set (i := 1) sc_carries.nd rfl (.inl rfl) (pe_call GF hr1 (by rfl) gF kF bF .nil pass0 (pa_cons (pv 0) pa_nil)))
      (pss_cons (ps_set (i := 2) sc_carries.nd rfl (.inl rfl) (pe_callTy0 cr_bnew (by rfl) mS (by decide +kernel)))
      (pss_cons (ps_expr (pe_badd hu (pv 2) (pa_cons (pv 1) pa_nil)))
      (pss_cons (ps_set (i := 3) sc_carries.nd rfl (.inl rfl) (pe_lst (pa_cons (pv 1) pa_nil)))
      (pss_cons (ps_while PassesOwn.never (pt_truth (pv 3) (fun _ => rfl))
        (pss_one (ps_for PassesOwn.never rfl (pi_list (pe_call GN hr (by rfl) gN kN bN .nil pass0 (pa_cons (pv 0) (pa_cons (pe_bm0 PySem.F.plainAttrs_list PySem.F.slot_list_pop PySem.F.type_list_pop mt_pop (pv 3)) pa_nil)))) (pg_tup rfl (pgs_cons (pg_name (i := 4) sc_carries.nd rfl (.inl rfl)) (pgs_cons (pg_name (i := 5) sc_carries.nd rfl (.inl rfl)) pgs_nil)))
          (pss_one (ps_if (pt_cmpR (or_bnotin hu) (pv 5) (pv 2) (by rfl))
            (pss_cons (ps_expr (pe_badd hu (pv 2) (pa_cons (pv 5) pa_nil)))
            (pss_one (ps_expr (pe_bm PySem.F.plainAttrs_list PySem.F.slot_list_append PySem.F.type_list_append mt_append (pv 3) (pa_cons (pv 5) pa_nil))))) pss_nil)))))
      (pss_one (ps_ret (pe_callB (cr_bsorted rfl) (by rfl) ms (by decide +kernel) (pa_cons (pv 2) pa_nil)))))))), ?_⟩
    obtain ⟨D, rs, eR, eD, hd⟩ := id hrow
    have s1 : Same H H := Same.refl H
    refine ⟨.ref R, rfl, R, m, o, ds, rfl, (Same.tups s1).row hrow, by omega, fun H2 Fi s2 nFi eFi => ?_⟩
    refine ⟨rfl, fun S hS => ?_⟩
    have sS := same_new (o := BSO w S []) hS
    have s12 := s1.trans s2
    refine ⟨.ref S, rfl, ⟨S, [], rfl, upd_same, (fun _ z => nomatch z)⟩, .ref Fi, rfl, S, Fi, flatK (ds.map fcD), [], rfl, rfl, ⟨upd_same, (fun _ z => nomatch z)⟩, flat_at (sS _ _ eFi), by decide, fun L0 _ hL0 => ?_⟩
    have pL0 := hL0 List.not_mem_nil
    obtain rfl : L0 = keyed [(Fi, ds.map fcD)] := (List.perm_singleton.mp pL0)
    rw [upd_upd]
    have sS2 := same_new (o := BSO w S (keyed [(Fi, ds.map fcD)])) hS
    refine ⟨.ref Fi, rfl, by show 1 ≤ sizeLine; decide, fun Wt hWt => ?_⟩
    have sW := same_new (o := .lst [.ref Fi]) hWt
    have sA := (s12.trans sS2).trans sW
    have nS : H S = none := s12.free hS
    have nW : H Wt = none := (s12.trans sS2).free hWt
    have nSW : S ≠ Wt := ne_of_none upd_same hWt
    have keepS : ∀ H4 o, Same H H4 → Same H (upd H4 S o) := fun H4 o s4 b u e => by
      rw [upd_ne (ne_of_none e nS)]
      exact s4 b u e
    have keepW : ∀ H4 o, Same H H4 → Same H (upd H4 Wt o) := fun H4 o s4 b u e => by
      rw [upd_ne (ne_of_none e nW)]
      exact s4 b u e
    -- the heap while it goes
    refine ⟨fun n σ H3 => ∃ y4 y5 L ws, σ = [some (.ref R), some (.ref Fi), some (.ref S), some (.ref Wt), y4, y5] ∧ H3 S = some (BSO w S (keyed L)) ∧ TAll H3 L ∧ H3 Wt = some (.lst (ws.map fun q : Addr × List Int => V.ref q.1)) ∧ TAll H3 ws ∧ Same H H3 ∧ Seen m ds (snd2 L) (snd2 ws) none ∧ n = 2 * (256 - L.length) + ws.length ∧ n ≤ 511,
      ⟨_, none, none, [(Fi, ds.map fcD)], [(Fi, ds.map fcD)], rfl, sW _ _ upd_same, fun q hq => ?_, upd_same, fun q hq => ?_, sA, seen_first m ds, rfl, by show 2 * (256 - 1) + 1 ≤ 511; decide⟩, fun n σ H3 hp => ?_⟩
    · rw [List.mem_singleton.mp hq]
      exact sW _ _ (sS2 _ _ eFi)
    · rw [List.mem_singleton.mp hq]
      exact sW _ _ (sS2 _ _ eFi)
    obtain ⟨y4, y5, L, ws, rfl, eS, tL, eW, tW, s3, sn, rfl, n63⟩ := hp
    refine ⟨.ref Wt, rfl, _, .inl ⟨_, .inl (.inl eW), rfl⟩, ?_⟩
    have Lf := sn.few h5
    have Lf2 : L.length ≤ 256 := by
      unfold snd2 at Lf
      rwa [List.length_map] at Lf
    rcases nil_or_snoc ws with rfl | ⟨ws, c0, rfl⟩
    · -- all is seen
      refine ⟨.ref S, rfl, S, L, rfl, eS, fun q hq => SqT.of (tL q hq), ⟨ds.length, fun q hq => (rch_shp (sn.rch q.2 (List.mem_map.mpr ⟨q, hq, rfl⟩))).len⟩, by omega, fun L' p hp srt hn => ?_⟩
      have sp := same_new (o := .lst (L'.map fun q => V.ref q.1)) hn
      refine q _ p L' (s3.trans sp) (s3.free hn) upd_same (fun z hz => sp _ _ (tL z (hp.mem_iff.mp hz))) ((hp.map fun q : Addr × List Int => q.2).nodup_iff.mpr sn.nd) (fun c => ?_) srt
      have e : c ∈ snd2 L' ↔ c ∈ snd2 L := (hp.map (·.2)).mem_iff
      rw [e]
      exact sn.all c
    · -- one more
      have tb : (!((ws ++ [c0]).map fun q : Addr × List Int => V.ref q.1).isEmpty) = true := by simp
      refine iteP tb ?_
      have cin : Seen m ds (snd2 L) (snd2 ws) (some c0.2) := by
        have e : snd2 (ws ++ [c0]) = snd2 ws ++ [c0.2] := by
          unfold snd2
          rw [List.map_append]
          rfl
        rw [e] at sn
        exact sn.take
      have ecut : ((ws ++ [c0]).map fun q : Addr × List Int => V.ref q.1).dropLast = ws.map fun q : Addr × List Int => V.ref q.1 := by
        rw [List.map_append]
        exact List.dropLast_concat
      have elast : ((ws ++ [c0]).map fun q : Addr × List Int => V.ref q.1)[((ws ++ [c0]).map fun q : Addr × List Int => V.ref q.1).length - 1]? = some (.ref c0.1) := by
        rw [List.map_append, List.length_append]
        show (ws.map (fun q : Addr × List Int => V.ref q.1) ++ [V.ref c0.1])[(ws.map fun q : Addr × List Int => V.ref q.1).length + 1 - 1]? = _
        rw [Nat.add_sub_cancel, List.getElem?_append_right (Nat.le_refl _), Nat.sub_self]
        rfl
      have wl : (ws ++ [c0]).length = ws.length + 1 := by
        rw [List.length_append]
        rfl
      refine ⟨fun σ' H' => ∃ m', m' < 2 * (256 - L.length) + (ws ++ [c0]).length ∧ (∃ y4 y5 L ws, σ' = [some (.ref R), some (.ref Fi), some (.ref S), some (.ref Wt), y4, y5] ∧ H' S = some (BSO w S (keyed L)) ∧ TAll H' L ∧ H' Wt = some (.lst (ws.map fun q : Addr × List Int => V.ref q.1)) ∧ TAll H' ws ∧ Same H H' ∧ Seen m ds (snd2 L) (snd2 ws) none ∧ m' = 2 * (256 - L.length) + ws.length ∧ m' ≤ 511), fun σ' H' z => z, .ref R, rfl, .ref Wt, rfl, .inl ⟨rfl, _, .inl (.inl eW)⟩, Wt, _, .ref c0.1, rfl, rfl, eW, elast, ?_⟩
      · rw [ecut]
        have tp := tups_put (o := .lst (ws.map fun q : Addr × List Int => V.ref q.1)) eW
        have ec3 := tp _ _ (tW c0 (List.mem_append_right _ List.mem_cons_self))
        have rc0 := cin.rch c0.2 (cin.cu _ rfl)
        have cl0 := (rch_shp rc0).len
        have sk := keepW H3 (.lst (ws.map fun q : Addr × List Int => V.ref q.1)) s3
        refine ⟨R, c0.1, m, o, ds, c0.2, rfl, (Same.tups sk).row hrow, hok, ec3, cl0, fun H9 C ps s9 nC eC hps => ?_⟩
        have psl : ps.length = 2 ^ m := by rw [awLen hps, stp_len]
        have nCS : C ≠ S := fun z => by rw [z, upd_ne nSW, eS] at nC; cases nC
        have nCW : C ≠ Wt := fun z => by rw [z, upd_same] at nC; cases nC
        have tp9 := tp.trans (Same.tups s9)
        refine ⟨C, rfl, ⟨_, .inl (.inl eC)⟩, for_list (K := K) (a := C) (xs := ps.map V.ref) (fun i σ H4 => ∃ y4 y5 L2 ws2, σ = [some (.ref R), some (.ref Fi), some (.ref S), some (.ref Wt), y4, y5] ∧ H4 S = some (BSO w S (keyed L2)) ∧ TAll H4 L2 ∧ H4 Wt = some (.lst (ws2.map fun q : Addr × List Int => V.ref q.1)) ∧ TAll H4 ws2 ∧ H4 C = some (.lst (ps.map V.ref)) ∧ StAt H4 ps (stp m ds o c0.2) ∧ H4 c0.1 = some (.tup (c0.2.map V.int)) ∧ Same H H4 ∧ Seen m ds (snd2 L2) (snd2 ws2) (some c0.2) ∧ succs m ds c0.2 i (snd2 L2) ∧ 2 * (256 - L2.length) + ws2.length ≤ 2 * (256 - L.length) + ws.length)
          ⟨y4, y5, L, ws, rfl, s9 _ _ (by rw [upd_ne nSW]; exact eS), tall_stay tp9 tL, s9 _ _ upd_same, tall_stay tp9 (fun q hq => tW q (List.mem_append_left _ hq)), eC, hps, s9 _ _ ec3, sk.trans s9, cin, (fun bs hb => by rw [List.take_zero] at hb; cases hb), Nat.le_refl _⟩ (fun i σ H4 _ hp => ?_) (fun i x σ H4 hx hp => ?_) (fun σ H4 hp => ?_)⟩
        · obtain ⟨_, _, _, _, _, _, _, _, _, e, _⟩ := hp
          exact .inl (.inl e)
        · obtain ⟨y4, y5, L2, ws2, rfl, eS4, tL4, eW4, tW4, eC4, hf4, ec4, s4, sn4, hsu, hme⟩ := hp
          have hi : i < ps.length := by
            have := (List.getElem?_eq_some_iff.mp hx).1
            rwa [List.length_map] at this
          have hx' : x = .ref ps[i] := by
            rw [List.getElem?_map, List.getElem?_eq_getElem hi] at hx
            exact (Option.some.inj hx).symm
          subst hx'
          obtain ⟨e0, hb1', p, hb2', ep⟩ := awGet hf4 (List.getElem?_eq_getElem hi)
          obtain ⟨bs, hb1, he0⟩ : ∃ bs, (allB m)[i]? = some bs ∧ e0.2 = nxt ds c0.2 (bts ds c0.2 bs) := by
            unfold stp at hb1'
            rw [List.getElem?_map] at hb1'
            cases hbs : (allB m)[i]? with
            | none => rw [hbs] at hb1'; cases hb1'
            | some bs =>
              rw [hbs] at hb1'
              refine ⟨bs, rfl, ?_⟩
              rw [← Option.some.inj hb1']
          obtain ⟨bl, bb⟩ := allB_ok m bs (List.mem_of_getElem? hb1)
          have s5 : Same H4 H4 := Same.refl H4
          refine ⟨ps[i], [.int e0.1, .ref p], rfl, .inl (.inl hb2'), rfl, .int e0.1, [.ref p], rfl, .ref p, [], rfl, rfl, ?_⟩
          rw [he0] at ep
          have rc := sn4.rch c0.2 (sn4.cu _ rfl)
          have ra : Rch m ds (nxt ds c0.2 (bts ds c0.2 bs)) := .next rc bl bb
          have tk : (allB m).take (i + 1) = (allB m).take i ++ [bs] := by
            rw [List.take_add_one, hb1]
            rfl
          generalize ha : nxt ds c0.2 (bts ds c0.2 bs) = a at ep ra
          have eS5 := s5 _ _ eS4
          have tL5 := tall_stay (Same.tups s5) tL4
          have Lf4 := sn4.few h5
          unfold snd2 at Lf4
          rw [List.length_map] at Lf4
          refine ⟨.ref p, rfl, .ref S, rfl, S, p, flatK a, keyed L2, rfl, rfl, h0 eS5 tL5, flat_at ep, _, rfl, ite2 (fun e => ?_) (fun e => ?_)⟩
          · have hk : flatK a ∉ (keyed L2).map (·.2) := by simpa using e
            have hn : a ∉ L2.map (·.2) := fun z => hk (keyed_mem.mpr z)
            refine ⟨.ref S, rfl, ⟨S, keyed L2, rfl, h0 eS5 tL5⟩, .ref p, rfl, S, p, flatK a, keyed L2, rfl, rfl, h0 eS5 tL5, flat_at ep, by show (keyed L2).length + 1 ≤ 8192; rw [List.length_map]; omega, fun L3 _ hL3 => ?_⟩
            obtain ⟨L3, pL3, rfl⟩ := keyed_perm (hL3 hk)
            have tS : TupsStay H4 (upd H4 S (BSO w S (keyed L3))) := tups_set eS5
            have eW6 : upd H4 S (BSO w S (keyed L3)) Wt = some (.lst (ws2.map fun q : Addr × List Int => V.ref q.1)) := by
              rw [upd_ne nSW.symm]
              exact s5 _ _ eW4
            refine ⟨.ref Wt, rfl, .inl ⟨rfl, _, .inl (.inl eW6)⟩, .ref p, rfl, Wt, _, _, rfl, rfl, eW6, ?_, ?_⟩
            · rw [List.length_map]
              rw [wl] at n63
              exact small1000 (by omega)
            have tW6 := tups_put (o := .lst ((ws2.map fun q : Addr × List Int => V.ref q.1) ++ [V.ref p])) eW6
            have tA := (Same.tups s5).trans (tS.trans tW6)
            have ll : L3.length = L2.length + 1 := pL3.length_eq
            have g3 : Seen m ds (snd2 L3) (snd2 (ws2 ++ [(p, a)])) (some c0.2) := by
              have e2 : snd2 (ws2 ++ [(p, a)]) = snd2 ws2 ++ [a] := by
                unfold snd2
                rw [List.map_append]
                rfl
              rw [e2]
              exact sn4.grow (pL3.map fun q : Addr × List Int => q.2) hn ra
            have f3 := g3.few h5
            unfold snd2 at f3
            rw [List.length_map] at f3
            refine ⟨some (.int e0.1), some (.ref p), L3, ws2 ++ [(p, a)], rfl, ?_, fun q hq => ?_, ?_, fun q hq => ?_, ?_, stat_stay tA hf4, tA _ _ ec4, keepW _ _ (keepS _ _ (s4.trans s5)), g3, fun b2 hb2 => ?_, ?_⟩
            · rw [upd_ne nSW]
              exact upd_same
            · rcases List.mem_cons.mp (pL3.mem_iff.mp hq) with rfl | hq
              · exact (tS.trans tW6) _ _ ep
              · exact tA _ _ (tL4 q hq)
            · rw [upd_same, List.map_append]
              rfl
            · rcases List.mem_append.mp hq with hq | hq
              · exact tA _ _ (tW4 q hq)
              · rw [List.mem_singleton.mp hq]
                exact (tS.trans tW6) _ _ ep
            · rw [upd_ne nCW, upd_ne nCS]
              exact s5 _ _ eC4
            · rw [tk] at hb2
              rcases List.mem_append.mp hb2 with hb2 | hb2
              · exact (pL3.map fun q : Addr × List Int => q.2).mem_iff.mpr (List.mem_cons_of_mem _ (hsu b2 hb2))
              · rw [List.mem_singleton.mp hb2, ha]
                exact (pL3.map fun q : Addr × List Int => q.2).mem_iff.mpr List.mem_cons_self
            · rw [List.length_append]
              show 2 * (256 - L3.length) + (ws2.length + 1) ≤ _
              omega
          · have hk : flatK a ∈ (keyed L2).map (·.2) := by simpa using e
            have hn : a ∈ L2.map (·.2) := keyed_mem.mp hk
            have tA := Same.tups s5
            refine ⟨some (.int e0.1), some (.ref p), L2, ws2, rfl, eS5, tL5, s5 _ _ eW4, tall_stay tA tW4, s5 _ _ eC4, stat_stay tA hf4, s5 _ _ ec4, s4.trans s5, sn4, fun b2 hb2 => ?_, hme⟩
            rw [tk] at hb2
            rcases List.mem_append.mp hb2 with hb2 | hb2
            · exact hsu b2 hb2
            · rw [List.mem_singleton.mp hb2, ha]
              exact hn
        · obtain ⟨y4, y5, L2, ws2, rfl, eS4, tL4, eW4, tW4, eC4, hf4, ec4, s4, sn4, hsu, hme⟩ := hp
          rw [List.length_map, psl] at hsu
          exact ⟨2 * (256 - L2.length) + ws2.length, by rw [wl]; omega, _, _, L2, ws2, rfl, eS4, tL4, eW4, tW4, s4, sn4.done hsu, rfl, by rw [wl] at n63; omega⟩
/-! ### lists of carries as data (of sec_pdat and sec_cdat, without pairs) -/
def cD (c : List Int) : PyData := .tuple (c.map PyData.int)
theorem eqvI' : ∀ {l k : List Int}, PyData.eqvAll (l.map PyData.int) (k.map PyData.int) = true → l = k
  | [], [], _ => rfl
  | [], _ :: _, h => by simp [PyData.eqvAll] at h
  | _ :: _, [], h => by simp [PyData.eqvAll] at h
  | x :: l, y :: k, h => by
    simp only [List.map_cons, PyData.eqvAll, Bool.and_eq_true] at h
    have h1 : x = y := by simpa [PyData.eqv] using h.1
    rw [h1, eqvI' h.2]
theorem lay_cD (c : List Int) : (cD c).canLay0 = true ∧ (cD c).depth = 1 := by
  obtain ⟨h1, h2⟩ := lay_ints c
  unfold cD
  simp only [PyData.canLay0, PyData.depth, h1, h2]
  simp
theorem dp_cD {H : Hp} {a : Addr} {c : List Int} (h : H a = some (.tup (c.map V.int))) : Dp K H (.ref a) (cD c) := .tup (SqT.of h) (dp_ints c)
theorem shaped_cD (c : List Int) : SeqAt.shaped (cD c) = true := by
  obtain ⟨a1, a2⟩ := lay_cD c
  unfold SeqAt.shaped
  rw [a1, a2]
  rfl
theorem lay_cDs : ∀ l : List (List Int), PyData.canLayAll0 (l.map cD) = true ∧ PyData.depthAll (l.map cD) ≤ 1
  | [] => ⟨by simp only [List.map_nil, PyData.canLayAll0], by simp only [List.map_nil, PyData.depthAll]; decide⟩
  | q :: l => by
    obtain ⟨a1, a2⟩ := lay_cD q
    obtain ⟨b1, b2⟩ := lay_cDs l
    exact ⟨by simp only [List.map_cons, PyData.canLayAll0, a1, b1, Bool.and_self], by simp only [List.map_cons, PyData.depthAll, a2]; omega⟩
theorem shaped_cDs (l : List (List Int)) : SeqAt.shaped (.list (l.map cD)) = true := by
  obtain ⟨a1, a2⟩ := lay_cDs l
  unfold SeqAt.shaped
  simp only [PyData.canLay0, PyData.depth, a1, Bool.true_and]
  exact decide_eq_true (by omega)
theorem eqv_cD (p q : List Int) : PyData.eqv (cD p) (cD q) = decide (p = q) := by
  by_cases h : p = q
  · subst h
    rw [decide_eq_true rfl]
    exact SeqAt.eqv_refl _ (SeqAt.canLay_of_shaped (shaped_cD p))
  · rw [decide_eq_false h]
    cases e : PyData.eqv (cD p) (cD q) with
    | false => rfl
    | true =>
      exfalso
      unfold cD at e
      simp only [PyData.eqv] at e
      exact h (eqvI' e)
theorem any_cD (q : List Int) : ∀ l : List (List Int), ((l.map cD).any fun z => PyData.eqv z (cD q)) = decide (q ∈ l)
  | [] => rfl
  | p :: l => by
    rw [List.map_cons, List.any_cons, eqv_cD, any_cD q l]
    by_cases h : p = q
    · subst h
      simp
    · have : ¬ q = p := fun z => h z.symm
      simp [h, this]
theorem dp_cDs {H : Hp} : ∀ {as : List Addr} {cs : List (List Int)}, TAt H as cs → DpAll K H (as.map V.ref) (cs.map cD)
  | _, _, .nil => .nil
  | _, _, .cons h t => .cons (dp_cD h) (dp_cDs t)
/-! ### the law's own bits and carries -/
def spLb (K : PySem.W.Frag) : Sp := fun vs H Q _ => ∃ (r L : Addr) (d : Deed) (told : List Int) (c : Int), vs = [.ref r, .int c, .ref L] ∧ H r = some (.tup (dV d)) ∧ SqL K H L (told.map V.int) ∧ DeedOk told.length d ∧ (∀ x ∈ told, Bit x) ∧ Bit c ∧ ∀ H', Same H H' → Q (.int (dbitAt d c told)) H'
theorem ok_lb {f : Addr} {fd : FuncData} {k : Nat} (F : Fun K "_law_bit" "_law_bit" s_law_bit f fd) (mi : mg "int" = none) (mx : mg "max" = none) : FnOk P w K mg base CX0 (k + 1) f fd ["deed", "carry", "bits"] (spLb K) := by
  refine F.ok sc_law_bit (fun vs H Q E h => ?_) (fun cdv A outer s H vs Q E hr h => ?_)
  · obtain ⟨r, L, d, told, c, rfl, _⟩ := h
    rfl
  · obtain ⟨r, L, d, told, c, rfl, er, eL, ok, tb, hc, q⟩ := h
    refine ⟨_, pss_cons (ps_set (i := 3) sc_law_bit.nd rfl (.inl rfl) (pe_ix ix_tup (pv 0) pe_int (fun _ _ => rfl)))
      (pss_cons (ps_if (pt_cmpR op_in_seq (pv 3) (pe_tup (pa_cons pe_str (pa_cons pe_str (pa_cons pe_str (pa_cons pe_str pa_nil))))) (by rfl)) (pss_one (ps_ret (pe_dget (hu_of hr) (pe_disp (pps_cons pe_str pe_int (pps_cons pe_str (pv 1) (pps_cons pe_str pe_int (pps_cons pe_str (pv 1) pps_nil)))) (by rfl) (by rfl) (fun z => by cases z) (by decide)) (pv 3) (fun _ _ => rfl)))) pss_nil)
      (pss_cons (ps_set (i := 4) sc_law_bit.nd rfl (.inl rfl) (pe_ix ix_list (pv 2) (pe_ix ix_tup (pv 0) pe_int (fun _ _ => rfl)) (fun _ _ => rfl)))
      (pss_cons (ps_if (pt_cmpR op_in_seq (pv 3) (pe_tup (pa_cons pe_str (pa_cons pe_str pa_nil))) (by rfl)) (pss_one (ps_ret (pe_ifExp (pt_cmpR op_eq (pv 3) pe_str (nomark _)) (pe_callTy call_int1 (by rfl) mi (by decide +kernel) (pa_cons (pe_cmpR op_eq (pv 4) pe_int (nomark _)) pa_nil)) (pe_callTy call_int1 (by rfl) mi (by decide +kernel) (pa_cons (pe_cmpR op_ne (pe_cmpR op_eq (pv 4) pe_int (nomark _)) (pe_cmpR op_eq (pv 1) pe_int (nomark _)) (nomark _)) pa_nil))))) pss_nil)
      (pss_cons (ps_set (i := 5) sc_law_bit.nd rfl (.inl rfl) (pe_ix ix_list (pv 2) (pe_ix ix_tup (pv 0) pe_int (fun _ _ => rfl)) (fun _ _ => rfl)))
      (pss_cons (ps_if (pt_cmpR op_in_seq (pv 3) (pe_tup (pa_cons pe_str (pa_cons pe_str (pa_cons pe_str pa_nil)))) (by rfl)) (pss_one (ps_ret (pe_dget (hu_of hr) (pe_disp (pps_cons pe_str (pe_op op_mul (pv 4) (pv 5)) (pps_cons pe_str (pe_callB (call_max2 rfl) (by rfl) mx (by decide +kernel) (pa_cons (pv 4) (pa_cons (pv 5) pa_nil))) (pps_cons pe_str (pe_callTy call_int1 (by rfl) mi (by decide +kernel) (pa_cons (pe_cmpR op_ne (pv 4) (pv 5) (nomark _)) pa_nil)) pps_nil))) (by rfl) (by rfl) (fun z => by cases z) (by decide)) (pv 3) (fun _ _ => rfl)))) pss_nil)
      (pss_one (ps_ret (pe_op op_mod (pe_op op_add (pe_op op_add (pv 4) (pv 5)) (pv 1)) pe_int)))))))), ?_⟩
    refine ⟨.ref r, rfl, r, _, 0, .str d.1, rfl, rfl, SqT.of er, dv0 d, ?_⟩
    have bA := argAt_bit tb d 0
    have bB := argAt_bit tb d 1
    unfold dbitAt at q
    refine ⟨.str d.1, rfl, by show 4 ≤ sizeLine; decide, fun T hT => ?_⟩
    have sT := same_new (o := .tup [.str "none", .str "one", .str "all", .str "twice"]) hT
    refine ⟨T, _, rfl, .inr (SqT.of upd_same), rfl, rfl, _, rfl, ite2 (fun e => ?_) (fun e => ?_)⟩
    · have hm : d.1 ∈ (["none", "one", "all", "twice"] : List Str) := of_decide_eq_true ((inS d.1 ["none", "one", "all", "twice"]).symm.trans e)
      intro p hp
      refine ⟨.int c, rfl, .int c, rfl, upd_same, [(Sum.inr "none", .int 0), (Sum.inr "one", .int c), (Sum.inr "all", .int 1), (Sum.inr "twice", .int c)], rfl, (by show 4 ≤ 15; decide), .str d.1, rfl, p, ?_⟩
      rw [upd_upd]
      have q1 := q _ (sT.trans (same_new (o := .dK (mergeK [] [(Sum.inr "none", .int 0), (Sum.inr "one", .int c), (Sum.inr "all", .int 1), (Sum.inr "twice", .int c)])) hp))
      simp only [List.mem_cons, List.not_mem_nil, or_false] at hm
      rcases hm with hm | hm | hm | hm <;> rw [hm] at q1 ⊢
      · exact ⟨.int 0, rfl, dget_at (k := Sum.inr "none") upd_same rfl, q1⟩
      · exact ⟨.int c, rfl, dget_at (k := Sum.inr "one") upd_same rfl, q1⟩
      · exact ⟨.int 1, rfl, dget_at (k := Sum.inr "all") upd_same rfl, q1⟩
      · exact ⟨.int c, rfl, dget_at (k := Sum.inr "twice") upd_same rfl, q1⟩
    have hn : ¬ d.1 ∈ (["none", "one", "all", "twice"] : List Str) := fun z => e ((inS d.1 ["none", "one", "all", "twice"]).trans (decide_eq_true z))
    simp only [List.mem_cons, List.not_mem_nil, or_false, not_or] at hn
    obtain ⟨n1, n2, n3, n4⟩ := hn
    obtain ⟨i, hi, ai, ei⟩ := arg1 ok n1 n2 n3
    have er2 := sT _ _ er
    have eL2 := sT.seq eL
    refine ⟨.ref L, rfl, .ref r, rfl, r, _, 1, .int i, rfl, rfl, SqT.of er2, dvN (k := 0) hi, L, _, i, .int (argAt d told 0), rfl, rfl, eL2, ei, ?_⟩
    refine ⟨.str d.1, rfl, by show 2 ≤ sizeLine; decide, fun U hU => ?_⟩
    have sU := sT.trans (same_new (o := .tup [.str "not", .str "neg"]) hU)
    refine ⟨U, _, rfl, .inr (SqT.of upd_same), rfl, rfl, _, rfl, ite2 (fun e => ?_) (fun e => ?_)⟩
    · have hm : d.1 ∈ (["not", "neg"] : List Str) := of_decide_eq_true ((inS d.1 ["not", "neg"]).symm.trans e)
      have q1 := q _ sU
      generalize argAt d told 0 = a at q1 bA
      generalize argAt d told 1 = b at q1 bB
      simp only [List.mem_cons, List.not_mem_nil, or_false] at hm
      rcases hm with hm | hm <;> rw [hm] at q1 ⊢
      · refine ⟨.str "not", rfl, rfl, _, rfl, .int a, rfl, rfl, .inr ⟨_, rfl, ?_⟩⟩
        rcases bA with rfl | rfl
        · exact q1
        · exact q1
      · refine ⟨.str "neg", rfl, rfl, _, rfl, .int a, rfl, rfl, .int c, rfl, rfl, rfl, .inr ⟨_, rfl, ?_⟩⟩
        rcases bA with rfl | rfl <;> rcases hc with rfl | rfl <;> exact q1
    have hn2 : ¬ d.1 ∈ (["not", "neg"] : List Str) := fun z => e ((inS d.1 ["not", "neg"]).trans (decide_eq_true z))
    simp only [List.mem_cons, List.not_mem_nil, or_false, not_or] at hn2
    obtain ⟨n5, n6⟩ := hn2
    obtain ⟨j, hj, aj, ej⟩ := arg2 ok n1 n2 n3 n5 n6 n4
    have er3 := sU _ _ er
    have eL3 := sU.seq eL
    refine ⟨.ref L, rfl, .ref r, rfl, r, _, 2, .int j, rfl, rfl, SqT.of er3, dvN (k := 1) hj, L, _, j, .int (argAt d told 1), rfl, rfl, eL3, ej, ?_⟩
    refine ⟨.str d.1, rfl, by show 3 ≤ sizeLine; decide, fun W hW => ?_⟩
    have sW := sU.trans (same_new (o := .tup [.str "and", .str "or", .str "xor"]) hW)
    have qa := fun H' s' => q H' s'
    generalize argAt d told 0 = a at qa bA
    generalize argAt d told 1 = b at qa bB
    refine ⟨W, _, rfl, .inr (SqT.of upd_same), rfl, rfl, _, rfl, ite2 (fun e => ?_) (fun e => ?_)⟩
    · have hm : d.1 ∈ (["and", "or", "xor"] : List Str) := of_decide_eq_true ((inS d.1 ["and", "or", "xor"]).symm.trans e)
      intro p hp
      have hab : CMul a b := .inl (by rcases bA with rfl | rfl <;> exact ⟨by decide, by decide⟩)
      refine ⟨.int a, rfl, .int b, rfl, a, b, rfl, rfl, hab, .int a, rfl, .int b, rfl, a, b, rfl, .int a, rfl, .int b, rfl, rfl, .inr ⟨_, rfl, upd_same, [(Sum.inr "and", .int (a * b)), (Sum.inr "or", .int (if b > a then b else a)), (Sum.inr "xor", _)], rfl, (by show 3 ≤ 15; decide), .str d.1, rfl, p, ?_⟩⟩
      rw [upd_upd]
      have q1 := fun o => qa _ (sW.trans (same_new (o := o) hp))
      simp only [List.mem_cons, List.not_mem_nil, or_false] at hm
      rcases hm with hm | hm | hm <;> rw [hm] at q1 ⊢
      · refine ⟨.int (a * b), rfl, dget_at (k := Sum.inr "and") upd_same rfl, ?_⟩
        rcases bA with rfl | rfl <;> rcases bB with rfl | rfl <;> exact q1 _
      · refine ⟨.int (if b > a then b else a), rfl, dget_at (k := Sum.inr "or") upd_same rfl, ?_⟩
        rcases bA with rfl | rfl <;> rcases bB with rfl | rfl <;> exact q1 _
      · refine ⟨_, rfl, dget_at (k := Sum.inr "xor") upd_same rfl, ?_⟩
        rcases bA with rfl | rfl <;> rcases bB with rfl | rfl <;> exact q1 _
    · have hn3 : ¬ d.1 ∈ (["and", "or", "xor"] : List Str) := fun z => e ((inS d.1 ["and", "or", "xor"]).trans (decide_eq_true z))
      simp only [List.mem_cons, List.not_mem_nil, or_false, not_or] at hn3
      obtain ⟨n7, n8, n9⟩ := hn3
      refine ⟨.int a, rfl, .int b, rfl, a, b, rfl, rfl, .int c, rfl, _, c, rfl, rfl, _, 2, rfl, rfl, (by show (0 : Int) < 2; decide), ?_⟩
      have q1 := qa _ sW
      unfold dbit at q1
      rw [if_neg n1, if_neg n3, if_neg n2, if_neg n4, if_neg n5, if_neg n6, if_neg n7, if_neg n8, if_neg n9] at q1
      rcases bA with rfl | rfl <;> rcases bB with rfl | rfl <;> rcases hc with rfl | rfl <;> exact q1
def spLc (K : PySem.W.Frag) : Sp := fun vs H Q _ => ∃ (r L : Addr) (d : Deed) (told : List Int) (c : Int), vs = [.ref r, .int c, .ref L] ∧ H r = some (.tup (dV d)) ∧ SqL K H L (told.map V.int) ∧ DeedOk told.length d ∧ (∀ x ∈ told, Bit x) ∧ Bit c ∧ Q (.int (dcarAt d c told)) H
theorem ok_lc {f : Addr} {fd : FuncData} {k : Nat} (F : Fun K "_law_carry" "_law_carry" s_law_carry f fd) (mi : mg "int" = none) : FnOk P w K mg base CX0 (k + 1) f fd ["deed", "carry", "bits"] (spLc K) := by
  refine F.ok sc_law_carry (fun vs H Q E h => ?_) (fun cdv A outer s H vs Q E hr h => ?_)
  · obtain ⟨r, L, d, told, c, rfl, _⟩ := h
    rfl
  · obtain ⟨r, L, d, told, c, rfl, er, eL, ok, tb, hc, q⟩ := h
    refine ⟨_, pss_cons (ps_set (i := 3) sc_law_carry.nd rfl (.inl rfl) (pe_ix ix_tup (pv 0) pe_int (fun _ _ => rfl)))
      (pss_cons (ps_if (pt_cmpR op_eq (pv 3) pe_str (nomark _)) (pss_one (ps_ret (pe_callTy call_int1 (by rfl) mi (by decide +kernel) (pa_cons (pe_and (pe_cmpR op_eq (pe_ix ix_list (pv 2) (pe_ix ix_tup (pv 0) pe_int (fun _ _ => rfl)) (fun _ _ => rfl)) pe_int (nomark _)) (pe_one (pe_cmpR op_eq (pv 1) pe_int (nomark _)))) pa_nil)))) pss_nil)
      (pss_cons (ps_if (pt_cmpR op_eq (pv 3) pe_str (nomark _)) (pss_one (ps_ret (pe_ix ix_list (pv 2) (pe_ix ix_tup (pv 0) pe_int (fun _ _ => rfl)) (fun _ _ => rfl)))) pss_nil)
      (pss_cons (ps_if (pt_cmpR op_eq (pv 3) pe_str (nomark _)) (pss_one (ps_ret (pe_op op_fdiv (pe_op op_add (pe_op op_add (pe_ix ix_list (pv 2) (pe_ix ix_tup (pv 0) pe_int (fun _ _ => rfl)) (fun _ _ => rfl)) (pe_ix ix_list (pv 2) (pe_ix ix_tup (pv 0) pe_int (fun _ _ => rfl)) (fun _ _ => rfl))) (pv 1)) pe_int))) pss_nil)
      (pss_cons (ps_if (pt_cmpR op_eq (pv 3) pe_str (nomark _)) (pss_one (ps_ret (pe_op op_fdiv (pe_op op_add (pe_op op_add (pe_op op_sub pe_int (pe_ix ix_list (pv 2) (pe_ix ix_tup (pv 0) pe_int (fun _ _ => rfl)) (fun _ _ => rfl))) (pe_ix ix_list (pv 2) (pe_ix ix_tup (pv 0) pe_int (fun _ _ => rfl)) (fun _ _ => rfl))) (pv 1)) pe_int))) pss_nil)
      (pss_one (ps_ret pe_int)))))), ?_⟩
    unfold dcarAt dcar at q
    have bA := argAt_bit tb d 0
    refine ⟨.ref r, rfl, r, _, 0, .str d.1, rfl, rfl, SqT.of er, dv0 d, ?_⟩
    refine ⟨.str d.1, rfl, rfl, _, rfl, ite2 (fun e => ?_) (fun n1 => ?_)⟩
    · rw [if_pos (strEq e)] at q
      have e2 := strEq e
      obtain ⟨i, hi, ai, ei⟩ := arg1 ok (by rw [e2]; decide +kernel) (by rw [e2]; decide +kernel) (by rw [e2]; decide +kernel)
      refine ⟨.ref L, rfl, .ref r, rfl, r, _, 1, .int i, rfl, rfl, SqT.of er, dvN (k := 0) hi, L, _, i, .int (argAt d told 0), rfl, rfl, eL, ei, rfl, _, rfl, ?_⟩
      generalize argAt d told 0 = a at q bA
      rcases bA with rfl | rfl
      · refine ⟨.int c, rfl, rfl, .inr ⟨_, rfl, ?_⟩⟩
        rcases hc with rfl | rfl
        · exact q
        · exact q
      · refine .inr ⟨_, rfl, ?_⟩
        rcases hc with rfl | rfl
        · exact q
        · exact q
    rw [if_neg (strNe n1)] at q
    refine ⟨.str d.1, rfl, rfl, _, rfl, ite2 (fun e => ?_) (fun n2 => ?_)⟩
    · rw [if_pos (strEq e)] at q
      have e2 := strEq e
      obtain ⟨i, hi, ai, ei⟩ := arg1 ok (by rw [e2]; decide +kernel) (by rw [e2]; decide +kernel) (by rw [e2]; decide +kernel)
      exact ⟨.ref L, rfl, .ref r, rfl, r, _, 1, .int i, rfl, rfl, SqT.of er, dvN (k := 0) hi, L, _, i, _, rfl, rfl, eL, ei, q⟩
    rw [if_neg (strNe n2)] at q
    refine ⟨.str d.1, rfl, rfl, _, rfl, ite2 (fun e => ?_) (fun n3 => ?_)⟩
    · rw [if_pos (strEq e)] at q
      have e2 := strEq e
      obtain ⟨i, hi, ai, ei⟩ := arg1 ok (by rw [e2]; decide +kernel) (by rw [e2]; decide +kernel) (by rw [e2]; decide +kernel)
      obtain ⟨j, hj, aj, ej⟩ := arg2 ok (by rw [e2]; decide +kernel) (by rw [e2]; decide +kernel) (by rw [e2]; decide +kernel) (by rw [e2]; decide +kernel) (by rw [e2]; decide +kernel) (by rw [e2]; decide +kernel)
      exact ⟨.ref L, rfl, .ref r, rfl, r, _, 1, .int i, rfl, rfl, SqT.of er, dvN (k := 0) hi, L, _, i, _, rfl, rfl, eL, ei, .ref L, rfl, .ref r, rfl, r, _, 2, .int j, rfl, rfl, SqT.of er, dvN (k := 1) hj, L, _, j, _, rfl, rfl, eL, ej, _, _, rfl, rfl, .int c, rfl, _, _, rfl, rfl, _, 2, rfl, rfl, ⟨by decide, by decide⟩, q⟩
    rw [if_neg (strNe n3)] at q
    refine ⟨.str d.1, rfl, rfl, _, rfl, ite2 (fun e => ?_) (fun n4 => ?_)⟩
    · rw [if_pos (strEq e)] at q
      have e2 := strEq e
      obtain ⟨i, hi, ai, ei⟩ := arg1 ok (by rw [e2]; decide +kernel) (by rw [e2]; decide +kernel) (by rw [e2]; decide +kernel)
      obtain ⟨j, hj, aj, ej⟩ := arg2 ok (by rw [e2]; decide +kernel) (by rw [e2]; decide +kernel) (by rw [e2]; decide +kernel) (by rw [e2]; decide +kernel) (by rw [e2]; decide +kernel) (by rw [e2]; decide +kernel)
      exact ⟨.ref L, rfl, .ref r, rfl, r, _, 1, .int i, rfl, rfl, SqT.of er, dvN (k := 0) hi, L, _, i, _, rfl, rfl, eL, ei, 1, _, rfl, rfl, .ref L, rfl, .ref r, rfl, r, _, 2, .int j, rfl, rfl, SqT.of er, dvN (k := 1) hj, L, _, j, _, rfl, rfl, eL, ej, _, _, rfl, rfl, .int c, rfl, _, _, rfl, rfl, _, 2, rfl, rfl, ⟨by decide, by decide⟩, q⟩
    rw [if_neg (strNe n4)] at q
    exact q
/-! ### the law's step -/
def spLs : Sp := fun vs H Q _ => ∃ (R C B : Addr) (m o : Int) (ds : List Deed) (cs bs : List Int), vs = [.ref R, .ref C, .ref B] ∧ RowAt H R m ds o ∧ DsOk m ds ∧ ds.length ≤ 100 ∧ H C = some (.tup (cs.map V.int)) ∧ cs.length = ds.length ∧ H B = some (.tup (bs.map V.int)) ∧ (bs.length : Int) = m ∧ bs.length ≤ 100 ∧
  (∀ x ∈ cs, Bit x) ∧ (∀ x ∈ bs, Bit x) ∧ ∀ H' p A2 B2, Same H H' → H' p = some (.tup [.ref A2, .ref B2]) → H' A2 = some (.tup ((bts ds cs bs).map V.int)) → H' B2 = some (.tup ((nxt ds cs (bts ds cs bs)).map V.int)) → Q (.ref p) H'
theorem ok_ls {f fB fC : Addr} {fd fdB fdC : FuncData} {k : Nat} (F : Fun K "_law_step" "_law_step" s_law_step f fd) (GB : FnOk P w K mg base CX0 (k + 1) fB fdB ["deed", "carry", "bits"] (spLb K)) (kB : PySem.W.keepIn K (.ref fB) = true) (bB : Binds K fdB ["deed", "carry", "bits"] []) (gB : mg "_law_bit" = some (.ref fB))
    (GC : FnOk P w K mg base CX0 (k + 1) fC fdC ["deed", "carry", "bits"] (spLc K)) (kC : PySem.W.keepIn K (.ref fC) = true) (bC : Binds K fdC ["deed", "carry", "bits"] []) (gC : mg "_law_carry" = some (.ref fC)) (ml : mg "list" = none) (mt : mg "tuple" = none) (mz : mg "zip" = none) : FnOk P w K mg base CX0 (k + 2) f fd ["row", "carry", "bits"] spLs := by
  refine F.ok sc_law_step (fun vs H Q E h => ?_) (fun cdv A outer s H vs Q E hr h => ?_)
  · obtain ⟨R, C, B, m, o, ds, cs, bs, rfl, _⟩ := h
    rfl
  · obtain ⟨R, C, B, m, o, ds, cs, bs, rfl, hrow, hok, hds, eC, hcl, eB, hm, hbl, cb, bb, q⟩ := h
    obtain ⟨D, rs, eR, eD, hd⟩ := id hrow
    refine ⟨_, pss_cons (ps_set (i := 3) sc_law_step.nd rfl (.inr rfl) (pe_callTy call_list_of (by rfl) ml (by decide +kernel) (pa_cons (pv 2) pa_nil)))
      (pss_cons (ps_for PassesOwn.never rfl (RZ.pi_zipA (by rfl) mz (pa_cons (pe_ix ix_tup (pv 0) pe_int (fun _ _ => rfl)) (pa_cons (pv 1) pa_nil))) (pg_tup rfl (pgs_cons (pg_name (i := 4) sc_law_step.nd rfl (.inl rfl)) (pgs_cons (pg_name (i := 5) sc_law_step.nd rfl (.inl rfl)) pgs_nil)))
        (pss_one (ps_expr (pe_bm PySem.F.plainAttrs_list PySem.F.slot_list_append PySem.F.type_list_append mt_append (pv 3) (pa_cons (pe_call GB hr (by rfl) gB kB bB .nil pass0 (pa_cons (pv 4) (pa_cons (pv 5) (pa_cons (pv 3) pa_nil)))) pa_nil)))))
      (pss_one (ps_ret (pe_tup (pa_cons (pe_callTy call_tuple_of (by rfl) mt (by decide +kernel) (pa_cons (pv 3) pa_nil)) (pa_cons (pe_callTy call_tuple_of (by rfl) mt (by decide +kernel) (pa_cons
        (pe_lc (own := [("deed", 4), ("one", 5)]) (g := gTup K 2 (gCons (gName 4) (gCons (gName 5) gNil))) (by rfl) sc_law_step.nd (RZ.pi_zipA (by rfl) mz (pa_cons (pe_ix ix_tup (pv 0) pe_int (fun _ _ => rfl)) (pa_cons (pv 1) pa_nil))) (blkOk_by (own := [("deed", 4), ("one", 5)]) (N := N_law_step) (sc := defScope s_law_step) (by decide +kernel))
          (fun _ _ _ _ _ => pg_tup rfl (pgs_cons (pg_name (i := 4) sc_law_step.nd rfl (.inl rfl)) (pgs_cons (pg_name (i := 5) sc_law_step.nd rfl (.inl rfl)) pgs_nil))) (fun _ _ _ _ _ => pts_nil)
          (fun _ _ _ _ _ => pe_call GC hr (by rfl) gC kC bC .nil pass0 (pa_cons (pv 4) (pa_cons (pv 5) (pa_cons (pv 3) pa_nil))))) pa_nil)) pa_nil)))))), ?_⟩
    refine ⟨.ref B, rfl, B, _, rfl, .inr (SqT.of eB), fun L hL => ?_⟩
    have sL := same_new (o := .lst (bs.map V.int)) hL
    have lrs : (rs.map V.ref).length = ds.length := by rw [List.length_map, awLen hd]
    have lcs : (cs.map V.int).length = ds.length := by rw [List.length_map, hcl]
    have tl : (bts ds cs bs).length = bs.length + ds.length := bts_len hcl.symm
    have allbits : ∀ x ∈ bts ds cs bs, Bit x := bts_bits bb cb
    refine ⟨.ref R, rfl, R, _, 1, .ref D, rfl, rfl, SqT.of (sL _ _ eR), rfl, .ref C, rfl, D, C, _, _, rfl, .inr ⟨SqT.of (sL _ _ eD), SqT.of (sL _ _ eC), RZ.for_zipT (K := K) (xs := rs.map V.ref) (ys := cs.map V.int) (lrs.trans lcs.symm) (fun i σ H3 => ∃ y4 y5, σ = [some (.ref R), some (.ref C), some (.ref B), some (.ref L), y4, y5] ∧ H3 L = some (.lst ((bts (ds.take i) (cs.take i) bs).map V.int)) ∧ Same H H3) ⟨none, none, rfl, by rw [upd_same]; cases ds <;> rfl, sL⟩ (fun i σ H3 hp => ?_) (fun i x y T σ H3 hx hy hp hT => ?_) (fun σ H3 hp => ?_)⟩⟩
    · obtain ⟨_, _, _, _, sm⟩ := hp
      exact ⟨SqT.of (sm _ _ eD), SqT.of (sm _ _ eC)⟩
    · obtain ⟨y4, y5, rfl, e3, sm⟩ := hp
      have hi : i < rs.length := by
        have := (List.getElem?_eq_some_iff.mp hx).1
        rwa [List.length_map] at this
      have hx' : x = .ref rs[i] := by
        rw [List.getElem?_map, List.getElem?_eq_getElem hi] at hx
        exact (Option.some.inj hx).symm
      subst hx'
      obtain ⟨d, hd1, hd2⟩ := awGet hd (List.getElem?_eq_getElem hi)
      obtain ⟨c, hc, rfl⟩ : ∃ c, cs[i]? = some c ∧ y = .int c := by
        rw [List.getElem?_map] at hy
        cases e : cs[i]? with
        | none => rw [e] at hy; cases hy
        | some c => rw [e] at hy; exact ⟨c, rfl, (Option.some.inj hy).symm⟩
      have h2 : i < ds.length := by
        rw [← awLen hd]
        exact hi
      have hlen : (bts (ds.take i) (cs.take i) bs).length = bs.length + i := by
        rw [bts_len (by rw [List.length_take, List.length_take, hcl]), List.length_take, Nat.min_eq_left (Nat.le_of_lt h2)]
      have okd : DeedOk (bts (ds.take i) (cs.take i) bs).length d := by
        rw [hlen]
        have := hok.each i d hd1
        rw [← hm] at this
        exact this
      have sT := same_new (o := .tup [.ref rs[i], .int c]) hT
      have e4 := sT _ _ e3
      refine ⟨T, [.ref rs[i], .int c], rfl, .inl (.inl upd_same), rfl, .ref rs[i], [.int c], rfl, .int c, [], rfl, rfl, ?_⟩
      refine ⟨.ref L, rfl, .inl ⟨rfl, _, .inl (.inl e4)⟩, .ref rs[i], rfl, .int c, rfl, .ref L, rfl, rs[i], L, d, _, c, rfl, sT _ _ (sm _ _ hd2), .inl (.inl e4), okd, bts_bits bb (fun x hx => cb x (List.mem_of_mem_take hx)), cb c (List.mem_of_getElem? hc), fun H5 s5 => ?_⟩
      refine ⟨L, _, _, rfl, rfl, s5 _ _ e4, ?_, some (.ref rs[i]), some (.int c), rfl, ?_, ?_⟩
      · rw [List.length_map, hlen]
        exact small1000 (by omega)
      · rw [upd_same, bts_next hd1 hc, List.map_append]
        rfl
      · intro b u e
        rw [upd_ne (ne_of_none e hL)]
        exact s5 b u (sT b u (sm b u e))
    · obtain ⟨y4, y5, rfl, e3, sm⟩ := hp
      rw [lrs, List.take_length, ← hcl, List.take_length] at e3
      refine ⟨.ref L, rfl, L, _, rfl, .inl ⟨.inl (.inl e3), fun A2 hA2 => ?_⟩⟩
      have s2 := sm.trans (same_new (o := .tup ((bts ds cs bs).map V.int)) hA2)
      have eA2 : upd H3 A2 (.tup ((bts ds cs bs).map V.int)) A2 = some (.tup ((bts ds cs bs).map V.int)) := upd_same
      have eL2 : upd H3 A2 (.tup ((bts ds cs bs).map V.int)) L = some (.lst ((bts ds cs bs).map V.int)) := same_new hA2 _ _ e3
      generalize upd H3 A2 (.tup ((bts ds cs bs).map V.int)) = H4 at s2 eA2 eL2
      refine ⟨.ref R, rfl, R, _, 1, .ref D, rfl, rfl, SqT.of (s2 _ _ eR), rfl, .ref C, rfl, D, C, _, _, rfl, .inr ⟨SqT.of (s2 _ _ eD), SqT.of (s2 _ _ eC), fun M hM => ?_⟩⟩
      refine lc_it (walk_zipT (K := K) (a := D) (b := C) (xs := rs.map V.ref) (ys := cs.map V.int) (lrs.trans lcs.symm)) (fun i H5 => H5 M = some (.lst (((nxt ds cs (bts ds cs bs)).take i).map V.int)) ∧ Same H4 H5) ⟨upd_same, same_new hM⟩ (fun i H5 _ hp => ⟨SqT.of (hp.2 _ _ (s2 _ _ eD)), SqT.of (hp.2 _ _ (s2 _ _ eC))⟩) (fun i x H5 H6 hi hp hy => ?_) (fun H5 hp => ?_)
      · obtain ⟨eM, sm5⟩ := hp
        obtain ⟨U, x1, x2, rfl, hU, rfl, g1, g2⟩ := hy
        have hi2 : i < rs.length := by rwa [List.length_map] at hi
        have hx' : x1 = .ref rs[i] := by
          have g1' : (rs.map V.ref)[i]? = some x1 := g1
          rw [List.getElem?_map, List.getElem?_eq_getElem hi2] at g1'
          exact (Option.some.inj g1').symm
        subst hx'
        obtain ⟨d, hd1, hd2⟩ := awGet hd (List.getElem?_eq_getElem hi2)
        obtain ⟨c, hc, rfl⟩ : ∃ c, cs[i]? = some c ∧ x2 = .int c := by
          have g2' : (cs.map V.int)[i]? = some x2 := g2
          rw [List.getElem?_map] at g2'
          cases e : cs[i]? with
          | none => rw [e] at g2'; cases g2'
          | some c => rw [e] at g2'; exact ⟨c, rfl, (Option.some.inj g2').symm⟩
        have h2 : i < ds.length := by
          rw [← awLen hd]
          exact hi2
        have okd : DeedOk (bts ds cs bs).length d := okd_more (hok.each i d hd1) (by omega)
        have sU := same_new (o := .tup [.ref rs[i], .int c]) hU
        refine ⟨U, [.ref rs[i], .int c], rfl, .inl (.inl upd_same), rfl, .ref rs[i], [.int c], rfl, .int c, [], rfl, rfl, rfl, ?_⟩
        refine ⟨.ref rs[i], rfl, .int c, rfl, .ref L, rfl, rs[i], L, d, _, c, rfl, sU _ _ (sm5 _ _ (s2 _ _ hd2)), .inl (.inl (sU _ _ (sm5 _ _ eL2))), okd, allbits, cb c (List.mem_of_getElem? hc), _, sU _ _ eM, ?_, ?_, ?_⟩
        · rw [List.length_map, List.length_take, nxt_len hcl.symm]
          exact small1000 (by omega)
        · rw [upd_same, nxt_next hd1 hc, List.map_append]
          rfl
        · intro b u e
          rw [upd_ne (ne_of_none e hM)]
          exact sU b u (sm5 b u e)
      · obtain ⟨eM, sm5⟩ := hp
        rw [lrs, ← nxt_len (t := bts ds cs bs) hcl.symm, List.take_length] at eM
        refine ⟨M, _, rfl, .inl ⟨.inl (.inl eM), fun B2 hB2 => ?_⟩⟩
        refine ⟨by show 2 ≤ sizeLine; decide, fun p hp => ?_⟩
        have sB := sm5.trans (same_new (o := .tup ((nxt ds cs (bts ds cs bs)).map V.int)) hB2)
        have sp := same_new (o := .tup [.ref A2, .ref B2]) hp
        exact q _ p A2 B2 ((s2.trans sB).trans sp) upd_same (sp _ _ (sB _ _ eA2)) (sp _ _ upd_same)
/-! ### the law's first carry -/
theorem ok_lf {f : Addr} {fd : FuncData} {k : Nat} (F : Fun K "_law_first" "_law_first" s_law_first f fd) (mt : mg "tuple" = none) (mi : mg "int" = none) : FnOk P w K mg base CX0 (k + 1) f fd ["row"] spFc := by
  refine F.ok sc_law_first (fun vs H Q E h => ?_) (fun cdv A outer s H vs Q E hr h => ?_)
  · obtain ⟨R, m, o, ds, rfl, _⟩ := h
    rfl
  · obtain ⟨R, m, o, ds, rfl, hrow, hl, q⟩ := h
    obtain ⟨D, rs, eR, eD, hd⟩ := id hrow
    refine ⟨_, pss_one (ps_ret (pe_callTy call_tuple_of (by rfl) mt (by decide +kernel) (pa_cons
      (pe_lc (own := [("deed", 1)]) (g := gName 1) (by rfl) sc_law_first.nd (pi_tup (pe_ix ix_tup (pv 0) pe_int (fun _ _ => rfl))) (blkOk_by (own := [("deed", 1)]) (N := N_law_first) (sc := defScope s_law_first) (by decide +kernel))
        (fun _ _ _ _ _ => pg_name (i := 1) sc_law_first.nd rfl (Or.inl rfl)) (fun _ _ _ _ _ => pts_nil)
        (fun _ _ _ _ _ => pe_callTy call_int1 (by rfl) mi (by decide +kernel) (pa_cons (pe_cmpR (r := rIn K false) op_in_seq (pe_ix (r := rIxT K) ix_tup (pv 1) pe_int (fun _ _ => rfl)) (pe_tup (pa_cons pe_str (pa_cons pe_str pa_nil))) (by rfl)) pa_nil))) pa_nil))), ?_⟩
    refine ⟨.ref R, rfl, R, _, 1, .ref D, rfl, rfl, SqT.of eR, rfl, D, rfl, ⟨_, SqT.of eD⟩, fun L hL => ?_⟩
    refine lc_tup (K := K) (a := D) (xs := rs.map V.ref) (fun i H4 => H4 L = some (.lst (((ds.take i).map fcD).map V.int)) ∧ Same H H4) ⟨upd_same, same_new hL⟩ (fun i H4 _ hp => SqT.of (hp.2 _ _ eD)) (fun i x H4 hx hp => ?_) (fun H4 hp => ?_)
    · obtain ⟨eL, sm⟩ := hp
      have hi : i < rs.length := by
        have := (List.getElem?_eq_some_iff.mp hx).1
        rwa [List.length_map] at this
      have hx' : x = .ref rs[i] := by
        rw [List.getElem?_map, List.getElem?_eq_getElem hi] at hx
        exact (Option.some.inj hx).symm
      subst hx'
      obtain ⟨d, hd1, hd2⟩ := awGet hd (List.getElem?_eq_getElem hi)
      refine ⟨rfl, .ref rs[i], rfl, rs[i], _, 0, .str d.1, rfl, rfl, SqT.of (sm _ _ hd2), dv0 d, by show 2 ≤ sizeLine; decide, fun T hT => ?_⟩
      have sT := same_new (o := .tup [.str "neg", .str "one"]) hT
      have eL2 := sT _ _ eL
      have old : ∀ o, Same H (upd (upd H4 T (.tup [.str "neg", .str "one"])) L o) := fun o b u e => by
        rw [upd_ne (ne_of_none e hL)]
        exact sT b u (sm b u e)
      have small : (((ds.take i).map fcD).map V.int).length < sizeLine := by
        rw [List.length_map, List.length_map, List.length_take]
        exact small1000 (by omega)
      have hin : inV (.str d.1) [.str "neg", .str "one"] = decide (d.1 ∈ (["neg", "one"] : List Str)) := inS d.1 ["neg", "one"]
      refine ⟨T, _, rfl, .inr (SqT.of upd_same), rfl, rfl, .inr ⟨_, rfl, _, eL2, small, ?_, old _⟩⟩
      rw [upd_same, List.take_add_one, hd1]
      have e1 : fcD d = if inV (.str d.1) [.str "neg", .str "one"] = true then 1 else 0 := by
        rw [hin]
        unfold fcD
        by_cases hm : d.1 ∈ (["neg", "one"] : List Str)
        · rw [if_pos hm, if_pos (decide_eq_true hm)]
        · rw [if_neg hm, if_neg (by simpa using hm)]
      simp only [Option.toList_some, List.map_append, List.map_cons, List.map_nil, e1]
      rfl
    · obtain ⟨eL, sm⟩ := hp
      rw [List.length_map, awLen hd, List.take_length] at eL
      refine ⟨L, _, rfl, .inl ⟨.inl (.inl eL), fun p hp => ?_⟩⟩
      exact q _ p (sm.trans (same_new hp)) (sm.free hp) upd_same
/-! ### all bits -/
/-- tuples of so many bits -/
def BitsAt (H : Hp) (n : Nat) (f : Addr) : Prop := ∃ bs : List Int, H f = some (.tup (bs.map V.int)) ∧ bs.length = n ∧ ∀ x ∈ bs, Bit x
theorem BitsAt.stay {H H' : Hp} {n : Nat} {f : Addr} (h : BitsAt H n f) (t : TupsStay H H') : BitsAt H' n f := by
  obtain ⟨bs, e, r⟩ := h
  exact ⟨bs, t _ _ e, r⟩
theorem refs_of {fs : List Addr} : ∀ ys : List V, (∀ y ∈ ys, ∃ g, g ∈ fs ∧ y = .ref g) → ∃ fs2 : List Addr, ys = fs2.map V.ref ∧ ∀ g ∈ fs2, g ∈ fs
  | [], _ => ⟨[], rfl, (fun _ z => nomatch z)⟩
  | y :: ys, all => by
    obtain ⟨g, hg, rfl⟩ := all y List.mem_cons_self
    obtain ⟨fs2, rfl, h2⟩ := refs_of ys fun z hz => all z (List.mem_cons_of_mem _ hz)
    refine ⟨g :: fs2, rfl, fun z hz => ?_⟩
    rcases List.mem_cons.mp hz with rfl | hz
    · exact hg
    · exact h2 z hz
def spAb : Sp := fun vs H Q _ => ∃ m : Nat, vs = [.int (m : Int)] ∧ 1 ≤ m ∧ m ≤ 3 ∧ ∀ H' p (fs : List Addr), Same H H' → H' p = some (.lst (fs.map V.ref)) → fs.length = 2 ^ m → (∀ f ∈ fs, BitsAt H' m f) → Q (.ref p) H'
theorem ok_ab {f : Addr} {fd : FuncData} {k : Nat} (F : Fun K "_law_bits" "_law_bits" s_law_bits f fd) (mr : mg "range" = none) (ms : mg "sorted" = none) : FnOk P w K mg base CX0 (k + 1) f fd ["many"] spAb := by
  refine F.ok sc_law_bits (fun vs H Q E h => ?_) (fun cdv A outer s H vs Q E hr h => ?_)
  · obtain ⟨m, rfl, _⟩ := h
    rfl
  · obtain ⟨m, rfl, m1, m3, q⟩ := h
    refine ⟨_, pss_cons (ps_set (i := 1) sc_law_bits.nd rfl (.inl rfl) (pe_lst (pa_cons (pe_tup pa_nil) pa_nil)))
      (pss_cons (ps_for PassesOwn.never rfl (pi_range1 (by rfl) mr (pa_cons (pv 0) pa_nil)) (pg_name (i := 2) sc_law_bits.nd rfl (.inl rfl))
        (pss_one (ps_set (i := 1) sc_law_bits.nd rfl (.inl rfl) (pe_op op_cat
          (pe_lc (own := [("some", 3)]) (g := gName 3) (by rfl) sc_law_bits.nd (pi_list (pv 1)) (blkOk_by (own := [("some", 3)]) (N := N_law_bits) (sc := defScope s_law_bits) (by decide +kernel)) (fun _ _ _ _ _ => pg_name (i := 3) sc_law_bits.nd rfl (Or.inl rfl)) (fun _ _ _ _ _ => pts_nil) (fun _ _ _ _ _ => pe_op op_catZ (pv 3) (pe_tup (pa_cons pe_int pa_nil))))
          (pe_lc (own := [("some", 3)]) (g := gName 3) (by rfl) sc_law_bits.nd (pi_list (pv 1)) (blkOk_by (own := [("some", 3)]) (N := N_law_bits) (sc := defScope s_law_bits) (by decide +kernel)) (fun _ _ _ _ _ => pg_name (i := 3) sc_law_bits.nd rfl (Or.inl rfl)) (fun _ _ _ _ _ => pts_nil) (fun _ _ _ _ _ => pe_op op_catZ (pv 3) (pe_tup (pa_cons pe_int pa_nil))))))))
      (pss_one (ps_ret (pe_callB (cr_sortT (d := m) (B := 2) m1) (by rfl) ms (by decide +kernel) (pa_cons (pv 1) pa_nil))))), ?_⟩
    refine ⟨by show 0 ≤ sizeLine; decide, fun T hT => ?_⟩
    refine ⟨by show 1 ≤ sizeLine; decide, fun L hL => ?_⟩
    have s1 := same_new (o := .tup []) hT
    have s2 := same_new (o := .lst [.ref T]) hL
    refine ⟨.int m, rfl, m, rfl, by omega, by omega, for_range (lo := 0) (n := m) (fun i σ H3 => ∃ y2 F1 fs, σ = [some (.int (m : Int)), some (.ref F1), y2, none] ∧ H3 F1 = some (.lst (fs.map V.ref)) ∧ fs.length = 2 ^ i ∧ (∀ f ∈ fs, BitsAt H3 i f) ∧ Same H H3) ⟨none, L, [T], rfl, upd_same, rfl, fun f hf => ?_, s1.trans s2⟩ (fun i σ H3 hi hp => ?_) (fun σ H3 hp => ?_)⟩
    · rw [List.mem_singleton.mp hf]
      exact ⟨[], s2 _ _ upd_same, rfl, (fun _ z => nomatch z)⟩
    · obtain ⟨y2, F1, fs, rfl, eF, hfl, hfb, sm⟩ := hp
      have fs8 : fs.length ≤ 8 := by
        rw [hfl]
        exact Nat.le_trans (Nat.pow_le_pow_right (by decide) (show i ≤ 3 by omega)) (by decide)
      -- one of the two lists
      have one : ∀ (b : Int) (H4 : Hp), Bit b → Same H3 H4 → ∀ j x H5, (∃ gs : List Addr, gs.length = j ∧ (∃ M, H5 M = some (.lst (gs.map V.ref))) ∧ (∀ g ∈ gs, BitsAt H5 (i + 1) g) ∧ Same H4 H5) → (fs.map V.ref)[j]? = some x → ∃ (f : Addr) (bs : List Int), x = .ref f ∧ H5 f = some (.tup (bs.map V.int)) ∧ bs.length = i ∧ ∀ y ∈ bs, Bit y := by
        rintro b H4 hb s4 j x H5 ⟨gs, _, _, _, s5⟩ hx
        rw [List.getElem?_map] at hx
        cases e : fs[j]? with
        | none => rw [e] at hx; cases hx
        | some f =>
          rw [e] at hx
          obtain ⟨bs, e1, e2, e3⟩ := hfb f (List.mem_of_getElem? e)
          exact ⟨f, bs, (Option.some.inj hx).symm, s5 _ _ (s4 _ _ e1), e2, e3⟩
      refine ⟨.ref F1, rfl, F1, rfl, ⟨_, .inl (.inl eF)⟩, fun M hM => ?_⟩
      refine lc_list (K := K) (a := F1) (xs := fs.map V.ref) (fun j H4 => ∃ gs : List Addr, gs.length = j ∧ H4 M = some (.lst (gs.map V.ref)) ∧ (∀ g ∈ gs, BitsAt H4 (i + 1) g) ∧ Same H3 H4) ⟨[], rfl, upd_same, (fun _ z => nomatch z), same_new hM⟩ (fun j H4 _ hp => ?_) (fun j x H4 hx hp => ?_) (fun H4 hp => ?_)
      · obtain ⟨_, _, _, _, s4⟩ := hp
        exact .inl (.inl (s4 _ _ eF))
      · obtain ⟨gs, hgl, eM, hgb, s4⟩ := hp
        obtain ⟨g0, bs, rfl, eg0, hbl, hbb⟩ := one 0 H3 bit0 (Same.refl H3) j x H4 ⟨gs, hgl, ⟨M, eM⟩, hgb, s4⟩ hx
        have hj : j < fs.length := by
          have := (List.getElem?_eq_some_iff.mp hx).1
          rwa [List.length_map] at this
        refine ⟨rfl, .ref g0, rfl, by show 1 ≤ sizeLine; decide, fun U hU => ?_⟩
        have sU := same_new (o := .tup [.int 0]) hU
        refine ⟨g0, U, _, _, rfl, rfl, sU _ _ eg0, upd_same, by rw [List.length_map]; exact Nat.le_of_lt (small1000 (by show bs.length + 1 ≤ 1000; omega)), fun p H5 s5 ep => ?_⟩
        have s45 := sU.trans s5
        have eM5 := s45 _ _ eM
        refine ⟨_, eM5, by rw [List.length_map]; exact small1000 (by omega), gs ++ [p], by rw [List.length_append, hgl]; rfl, ?_, ?_, ?_⟩
        · rw [upd_same, List.map_append]
          rfl
        · intro g hg
          have tp := tups_put (o := .lst (gs.map V.ref ++ [V.ref p])) eM5
          rcases List.mem_append.mp hg with hg | hg
          · exact (hgb g hg).stay ((Same.tups s45).trans tp)
          · rw [List.mem_singleton.mp hg]
            refine ⟨bs ++ [0], tp _ _ (by rw [ep, List.map_append]; rfl), by rw [List.length_append, hbl]; rfl, fun y hy => ?_⟩
            rcases List.mem_append.mp hy with hy | hy
            · exact hbb y hy
            · rw [List.mem_singleton.mp hy]
              exact bit0
        · intro b u e
          rw [upd_ne (ne_of_none e hM)]
          exact s45 b u (s4 b u e)
      · obtain ⟨gs, hgl, eM, hgb, s4⟩ := hp
        refine ⟨.ref F1, rfl, F1, rfl, ⟨_, .inl (.inl (s4 _ _ eF))⟩, fun M2 hM2 => ?_⟩
        refine lc_list (K := K) (a := F1) (xs := fs.map V.ref) (fun j H5 => ∃ hs : List Addr, hs.length = j ∧ H5 M2 = some (.lst (hs.map V.ref)) ∧ (∀ g ∈ hs, BitsAt H5 (i + 1) g) ∧ Same H4 H5) ⟨[], rfl, upd_same, (fun _ z => nomatch z), same_new hM2⟩ (fun j H5 _ hp => ?_) (fun j x H5 hx hp => ?_) (fun H5 hp => ?_)
        · obtain ⟨_, _, _, _, s5⟩ := hp
          exact .inl (.inl (s5 _ _ (s4 _ _ eF)))
        · obtain ⟨hs, hhl, eM2, hhb, s5⟩ := hp
          obtain ⟨g0, bs, rfl, eg0, hbl, hbb⟩ := one 1 H4 bit1 s4 j x H5 ⟨hs, hhl, ⟨M2, eM2⟩, hhb, s5⟩ hx
          have hj : j < fs.length := by
            have := (List.getElem?_eq_some_iff.mp hx).1
            rwa [List.length_map] at this
          refine ⟨rfl, .ref g0, rfl, by show 1 ≤ sizeLine; decide, fun U hU => ?_⟩
          have sU := same_new (o := .tup [.int 1]) hU
          refine ⟨g0, U, _, _, rfl, rfl, sU _ _ eg0, upd_same, by rw [List.length_map]; exact Nat.le_of_lt (small1000 (by show bs.length + 1 ≤ 1000; omega)), fun p H6 s6 ep => ?_⟩
          have s56 := sU.trans s6
          have eM6 := s56 _ _ eM2
          refine ⟨_, eM6, by rw [List.length_map]; exact small1000 (by omega), hs ++ [p], by rw [List.length_append, hhl]; rfl, ?_, ?_, ?_⟩
          · rw [upd_same, List.map_append]
            rfl
          · intro g hg
            have tp := tups_put (o := .lst (hs.map V.ref ++ [V.ref p])) eM6
            rcases List.mem_append.mp hg with hg | hg
            · exact (hhb g hg).stay ((Same.tups s56).trans tp)
            · rw [List.mem_singleton.mp hg]
              refine ⟨bs ++ [1], tp _ _ (by rw [ep, List.map_append]; rfl), by rw [List.length_append, hbl]; rfl, fun y hy => ?_⟩
              rcases List.mem_append.mp hy with hy | hy
              · exact hbb y hy
              · rw [List.mem_singleton.mp hy]
                exact bit1
          · intro b u e
            rw [upd_ne (ne_of_none e hM2)]
            exact s56 b u (s5 b u e)
        · obtain ⟨hs, hhl, eM2, hhb, s5⟩ := hp
          have lg : gs.length = fs.length := by rw [hgl, List.length_map]
          have lh : hs.length = fs.length := by rw [hhl, List.length_map]
          refine ⟨M, M2, _, _, rfl, rfl, s5 _ _ eM, eM2, by rw [List.length_map, List.length_map]; exact Nat.le_of_lt (small1000 (by omega)), fun p hp => ?_⟩
          have sp := same_new (o := .lst (gs.map V.ref ++ hs.map V.ref)) hp
          refine ⟨some (.int (0 + i)), p, gs ++ hs, rfl, ?_, ?_, fun g hg => ?_, ((sm.trans s4).trans s5).trans sp⟩
          · rw [upd_same, List.map_append]
          · rw [List.length_append, lg, lh, hfl, Nat.pow_succ]
            omega
          · rcases List.mem_append.mp hg with hg | hg
            · exact (hgb g hg).stay (Same.tups (s5.trans sp))
            · exact (hhb g hg).stay (Same.tups sp)
    · obtain ⟨y2, F1, fs, rfl, eF, hfl, hfb, sm⟩ := hp
      have fs8 : fs.length ≤ 8 := by
        rw [hfl]
        exact Nat.le_trans (Nat.pow_le_pow_right (by decide) m3) (by decide)
      refine ⟨.ref F1, rfl, F1, _, rfl, .inl (.inl eF), by rw [List.length_map]; omega, fun x hx => ?_, fun ys p perm _ hp => ?_⟩
      · obtain ⟨g, hg, rfl⟩ := List.mem_map.mp hx
        obtain ⟨bs, e1, e2, e3⟩ := hfb g hg
        refine ⟨bs, ⟨g, rfl, SqT.of e1⟩, e2, fun y hy => ?_⟩
        rcases e3 y hy with rfl | rfl
        · exact ⟨by decide, by decide⟩
        · exact ⟨by decide, by decide⟩
      · obtain ⟨fs2, rfl, perm2⟩ : ∃ fs2 : List Addr, ys = fs2.map V.ref ∧ ∀ g ∈ fs2, g ∈ fs := by
          have all : ∀ y ∈ ys, ∃ g, g ∈ fs ∧ y = .ref g := fun y hy => by
            obtain ⟨g, hg, e⟩ := List.mem_map.mp (perm.mem_iff.mp hy)
            exact ⟨g, hg, e.symm⟩
          exact refs_of ys all
        have sp := same_new (o := .lst (fs2.map V.ref)) hp
        refine q _ p fs2 (sm.trans sp) upd_same ?_ fun g hg => (hfb g (perm2 g hg)).stay (Same.tups sp)
        have := perm.length_eq
        rw [List.length_map, List.length_map] at this
        rw [this, hfl]
/-! ### _law_bits: all bits, in order -/
def uB : Nat → List (List Int)
  | 0 => [[]]
  | n + 1 => (uB n).map (· ++ [0]) ++ (uB n).map (· ++ [1])
theorem uB_len : ∀ n, (uB n).length = 2 ^ n
  | 0 => rfl
  | n + 1 => by
    show ((uB n).map (· ++ [0]) ++ (uB n).map (· ++ [1])).length = _
    rw [List.length_append, List.length_map, List.length_map, uB_len n, Nat.pow_succ]
    omega
theorem uB_ok : ∀ m, ∀ bs ∈ uB m, bs.length = m ∧ ∀ x ∈ bs, Bit x
  | 0, bs, h => by
    rw [List.mem_singleton.mp h]
    exact ⟨rfl, (fun _ z => nomatch z)⟩
  | m + 1, bs, h => by
    have one : ∀ b : Int, Bit b → bs ∈ (uB m).map (· ++ [b]) → bs.length = m + 1 ∧ ∀ x ∈ bs, Bit x := fun b hb hh => by
      obtain ⟨c, hc, rfl⟩ := List.mem_map.mp hh
      obtain ⟨h1, h2⟩ := uB_ok m c hc
      refine ⟨by rw [List.length_append, h1]; rfl, fun x hx => ?_⟩
      rcases List.mem_append.mp hx with z | z
      · exact h2 x z
      · rw [List.mem_singleton.mp z]; exact hb
    rcases List.mem_append.mp h with z | z
    · exact one 0 bit0 z
    · exact one 1 bit1 z
def contA (H : Hp) (a : Addr) : List Int := match H a with
  | some (.tup vs) => vs.map fun v => match v with | .int i => i | _ => 0
  | _ => []
theorem contA_eq {H : Hp} {a : Addr} {bs : List Int} (h : H a = some (.tup (bs.map V.int))) : contA H a = bs := by
  unfold contA
  rw [h]
  show (bs.map V.int).map _ = bs
  rw [List.map_map]
  exact List.map_id _
theorem tat_cont {H : Hp} : ∀ {fs : List Addr} {l : List (List Int)}, TAt H fs l → l = fs.map (contA H)
  | _, _, .nil => rfl
  | _, _, .cons h t => by
    rw [List.map_cons, contA_eq h, ← tat_cont t]
theorem cont_tat {H : Hp} : ∀ {fs : List Addr}, (∀ f ∈ fs, H f = some (.tup ((contA H f).map V.int))) → TAt H fs (fs.map (contA H))
  | [], _ => .nil
  | f :: fs, h => .cons (h f List.mem_cons_self) (cont_tat fun g hg => h g (List.mem_cons_of_mem _ hg))
theorem sort_uniq {c : List Int → Int} : ∀ {l r : List (List Int)}, l.Perm r → l.Pairwise (fun x y => c x ≤ c y) → r.Pairwise (fun x y => c x < c y) → l = r
  | [], r, p, _, _ => by rw [List.Perm.nil_eq p]
  | x :: l, [], p, _, _ => absurd p.length_eq (by simp)
  | x :: l, y :: r, p, h1, h2 => by
    obtain ⟨h1a, h1b⟩ := List.pairwise_cons.mp h1
    obtain ⟨h2a, h2b⟩ := List.pairwise_cons.mp h2
    have e : x = y := by
      have hx : x ∈ y :: r := p.mem_iff.mp List.mem_cons_self
      have hy : y ∈ x :: l := p.mem_iff.mpr List.mem_cons_self
      rcases List.mem_cons.mp hx with z | z
      · exact z
      · rcases List.mem_cons.mp hy with w | w
        · exact w.symm
        · have a := h2a x z
          have b := h1a y w
          omega
    subst e
    rw [sort_uniq ((List.perm_cons x).mp p) h1b h2b]
theorem awApp {α β : Type} {F : α → β → Prop} : ∀ {l : List α} {l2 : List β} {r : List α} {r2 : List β}, Paired F l l2 → Paired F r r2 → Paired F (l ++ r) (l2 ++ r2)
  | _, _, _, _, .nil, h => h
  | _, _, _, _, .cons a t, h => .cons a (awApp t h)
def unRef : V → Addr
  | .ref a => a
  | _ => 0
theorem perm_ref {a b : List Addr} (h : (a.map V.ref).Perm (b.map V.ref)) : a.Perm b := by
  have := h.map unRef
  rw [List.map_map, List.map_map] at this
  have e : ∀ l : List Addr, l.map (unRef ∘ V.ref) = l := fun l => List.map_id l
  rwa [e, e] at this
theorem uB_sorted {m : Nat} (m3 : m ≤ 3) : (uB m).Perm (allB m) ∧ (allB m).Pairwise (fun x y => TS.code 2 x < TS.code 2 y) := by
  have hm : m = 0 ∨ m = 1 ∨ m = 2 ∨ m = 3 := by omega
  rcases hm with rfl | rfl | rfl | rfl
  · exact ⟨by decide +kernel, by decide +kernel⟩
  · exact ⟨by decide +kernel, by decide +kernel⟩
  · exact ⟨by decide +kernel, by decide +kernel⟩
  · exact ⟨by decide +kernel, by decide +kernel⟩
set_option maxHeartbeats 1000000 in
theorem ok_abf {f : Addr} {fd : FuncData} {k : Nat} (F : Fun K "_law_bits" "_law_bits" s_law_bits f fd) (mr : mg "range" = none) (ms : mg "sorted" = none) : FnOk P w K mg base CX0 (k + 1) f fd ["many"] (fun vs H Q _ => ∃ m : Nat, vs = [.int (m : Int)] ∧ 1 ≤ m ∧ m ≤ 3 ∧ ∀ H' p fs, Same H H' → H p = none → H' p = some (.lst (fs.map V.ref)) → TAt H' fs (allB m) → Q (.ref p) H') := by
  refine F.ok sc_law_bits (fun vs H Q E h => ?_) (fun cdv A outer s H vs Q E hr h => ?_)
  · obtain ⟨m, rfl, _⟩ := h
    rfl
  · obtain ⟨m, rfl, m1, m3, q⟩ := h
    refine ⟨_, pss_cons (ps_set (i := 1) sc_law_bits.nd rfl (.inl rfl) (pe_lst (pa_cons (pe_tup pa_nil) pa_nil)))
      (pss_cons (ps_for PassesOwn.never rfl (pi_range1 (by rfl) mr (pa_cons (pv 0) pa_nil)) (pg_name (i := 2) sc_law_bits.nd rfl (.inl rfl))
        (pss_one (ps_set (i := 1) sc_law_bits.nd rfl (.inl rfl) (pe_op op_cat
          (pe_lc (own := [("some", 3)]) (g := gName 3) (by rfl) sc_law_bits.nd (pi_list (pv 1)) (blkOk_by (own := [("some", 3)]) (N := N_law_bits) (sc := defScope s_law_bits) (by decide +kernel)) (fun _ _ _ _ _ => pg_name (i := 3) sc_law_bits.nd rfl (Or.inl rfl)) (fun _ _ _ _ _ => pts_nil) (fun _ _ _ _ _ => pe_op op_catZ (pv 3) (pe_tup (pa_cons pe_int pa_nil))))
          (pe_lc (own := [("some", 3)]) (g := gName 3) (by rfl) sc_law_bits.nd (pi_list (pv 1)) (blkOk_by (own := [("some", 3)]) (N := N_law_bits) (sc := defScope s_law_bits) (by decide +kernel)) (fun _ _ _ _ _ => pg_name (i := 3) sc_law_bits.nd rfl (Or.inl rfl)) (fun _ _ _ _ _ => pts_nil) (fun _ _ _ _ _ => pe_op op_catZ (pv 3) (pe_tup (pa_cons pe_int pa_nil))))))))
      (pss_one (ps_ret (pe_callB (cr_sortT (d := m) (B := 2) m1) (by rfl) ms (by decide +kernel) (pa_cons (pv 1) pa_nil))))), ?_⟩
    refine ⟨by show 0 ≤ sizeLine; decide, fun T hT => ?_⟩
    refine ⟨by show 1 ≤ sizeLine; decide, fun L hL => ?_⟩
    have s1 := same_new (o := .tup []) hT
    have s2 := same_new (o := .lst [.ref T]) hL
    refine ⟨.int m, rfl, m, rfl, by omega, by omega, for_range (lo := 0) (n := m) (fun i σ H3 => ∃ y2 F1 fs, σ = [some (.int (m : Int)), some (.ref F1), y2, none] ∧ H3 F1 = some (.lst (fs.map V.ref)) ∧ TAt H3 fs (uB i) ∧ Same H H3) ⟨none, L, [T], rfl, upd_same, .cons (s2 _ _ upd_same) .nil, s1.trans s2⟩ (fun i σ H3 hi hp => ?_) (fun σ H3 hp => ?_)⟩
    · obtain ⟨y2, F1, fs, rfl, eF, hfb, sm⟩ := hp
      have hfl : fs.length = 2 ^ i := by rw [awLen hfb, uB_len]
      have fs8 : fs.length ≤ 8 := by
        rw [hfl]
        exact Nat.le_trans (Nat.pow_le_pow_right (by decide) (show i ≤ 3 by omega)) (by decide)
      refine ⟨.ref F1, rfl, F1, rfl, ⟨_, .inl (.inl eF)⟩, fun M hM => ?_⟩
      refine lc_list (K := K) (a := F1) (xs := fs.map V.ref) (fun j H4 => ∃ gs : List Addr, H4 M = some (.lst (gs.map V.ref)) ∧ TAt H4 gs (((uB i).take j).map (· ++ [0])) ∧ Same H3 H4) ⟨[], upd_same, .nil, same_new hM⟩ (fun j H4 _ hp => ?_) (fun j x H4 hx hp => ?_) (fun H4 hp => ?_)
      · obtain ⟨_, _, _, s4⟩ := hp
        exact .inl (.inl (s4 _ _ eF))
      · obtain ⟨gs, eM, hgb, s4⟩ := hp
        rw [List.getElem?_map] at hx
        obtain ⟨g0, hg0, rfl⟩ := Option.map_eq_some_iff.mp hx
        obtain ⟨bs, hbs, eg⟩ := awGet hfb hg0
        have eg0 : H4 g0 = some (.tup (bs.map V.int)) := s4 _ _ eg
        have hj := (List.getElem?_eq_some_iff.mp hg0).1
        have hbl := (uB_ok i bs (List.mem_of_getElem? hbs)).1
        have hgl := awLen hgb
        rw [List.length_map, List.length_take] at hgl
        refine ⟨rfl, .ref g0, rfl, by show 1 ≤ sizeLine; decide, fun U hU => ?_⟩
        have sU := same_new (o := .tup [.int 0]) hU
        refine ⟨g0, U, _, _, rfl, rfl, sU _ _ eg0, upd_same, by rw [List.length_map]; exact Nat.le_of_lt (small1000 (by show bs.length + 1 ≤ 1000; omega)), fun p H5 s5 ep => ?_⟩
        have s45 := sU.trans s5
        have eM5 := s45 _ _ eM
        refine ⟨_, eM5, by rw [List.length_map]; exact small1000 (by omega), gs ++ [p], ?_, ?_, ?_⟩
        · rw [upd_same, List.map_append]
          rfl
        · have tp := tups_put (o := .lst (gs.map V.ref ++ [V.ref p])) eM5
          rw [List.take_add_one, hbs, List.map_append]
          exact tat_stay tp (awSnoc (F := fun (f : Addr) (b : List Int) => H5 f = some (.tup (b.map V.int))) (by rw [ep, List.map_append]; rfl) (tat_stay (Same.tups s45) hgb))
        · intro b u e
          rw [upd_ne (ne_of_none e hM)]
          exact s45 b u (s4 b u e)
      · obtain ⟨gs, eM, hgb, s4⟩ := hp
        refine ⟨.ref F1, rfl, F1, rfl, ⟨_, .inl (.inl (s4 _ _ eF))⟩, fun M2 hM2 => ?_⟩
        refine lc_list (K := K) (a := F1) (xs := fs.map V.ref) (fun j H5 => ∃ hs : List Addr, H5 M2 = some (.lst (hs.map V.ref)) ∧ TAt H5 hs (((uB i).take j).map (· ++ [1])) ∧ Same H4 H5) ⟨[], upd_same, .nil, same_new hM2⟩ (fun j H5 _ hp => ?_) (fun j x H5 hx hp => ?_) (fun H5 hp => ?_)
        · obtain ⟨_, _, _, s5⟩ := hp
          exact .inl (.inl (s5 _ _ (s4 _ _ eF)))
        · obtain ⟨hs, eM2, hhb, s5⟩ := hp
          rw [List.getElem?_map] at hx
          obtain ⟨g0, hg0, rfl⟩ := Option.map_eq_some_iff.mp hx
          obtain ⟨bs, hbs, eg⟩ := awGet hfb hg0
          have eg0 : H5 g0 = some (.tup (bs.map V.int)) := s5 _ _ (s4 _ _ eg)
          have hj := (List.getElem?_eq_some_iff.mp hg0).1
          have hbl := (uB_ok i bs (List.mem_of_getElem? hbs)).1
          have hgl := awLen hhb
          rw [List.length_map, List.length_take] at hgl
          refine ⟨rfl, .ref g0, rfl, by show 1 ≤ sizeLine; decide, fun U hU => ?_⟩
          have sU := same_new (o := .tup [.int 1]) hU
          refine ⟨g0, U, _, _, rfl, rfl, sU _ _ eg0, upd_same, by rw [List.length_map]; exact Nat.le_of_lt (small1000 (by show bs.length + 1 ≤ 1000; omega)), fun p H6 s6 ep => ?_⟩
          have s56 := sU.trans s6
          have eM6 := s56 _ _ eM2
          refine ⟨_, eM6, by rw [List.length_map]; exact small1000 (by omega), hs ++ [p], ?_, ?_, ?_⟩
          · rw [upd_same, List.map_append]
            rfl
          · have tp := tups_put (o := .lst (hs.map V.ref ++ [V.ref p])) eM6
            rw [List.take_add_one, hbs, List.map_append]
            exact tat_stay tp (awSnoc (F := fun (f : Addr) (b : List Int) => H6 f = some (.tup (b.map V.int))) (by rw [ep, List.map_append]; rfl) (tat_stay (Same.tups s56) hhb))
          · intro b u e
            rw [upd_ne (ne_of_none e hM2)]
            exact s56 b u (s5 b u e)
        · obtain ⟨hs, eM2, hhb, s5⟩ := hp
          have ul := uB_len i
          rw [List.length_map, hfl, ← ul, List.take_length] at hhb hgb
          have lg := awLen hgb
          have lh := awLen hhb
          rw [List.length_map] at lg lh
          refine ⟨M, M2, _, _, rfl, rfl, s5 _ _ eM, eM2, by rw [List.length_map, List.length_map]; exact Nat.le_of_lt (small1000 (by omega)), fun p hp => ?_⟩
          have sp := same_new (o := .lst (gs.map V.ref ++ hs.map V.ref)) hp
          refine ⟨some (.int (0 + i)), p, gs ++ hs, rfl, ?_, ?_, ((sm.trans s4).trans s5).trans sp⟩
          · rw [upd_same, List.map_append]
          · exact tat_stay (Same.tups sp) (awApp (tat_stay (Same.tups s5) hgb) hhb)
    · obtain ⟨y2, F1, fs, rfl, eF, hfb, sm⟩ := hp
      have hfl : fs.length = 2 ^ m := by rw [awLen hfb, uB_len]
      have fs8 : fs.length ≤ 8 := by
        rw [hfl]
        exact Nat.le_trans (Nat.pow_le_pow_right (by decide) m3) (by decide)
      have hcont := tat_cont hfb
      have each : ∀ g ∈ fs, ∃ bs, bs ∈ uB m ∧ H3 g = some (.tup (bs.map V.int)) := fun g hg => by
        obtain ⟨i, hi⟩ := List.mem_iff_getElem?.mp hg
        obtain ⟨bs, h1, h2⟩ := awGet hfb hi
        exact ⟨bs, List.mem_of_getElem? h1, h2⟩
      refine ⟨.ref F1, rfl, F1, _, rfl, .inl (.inl eF), by rw [List.length_map]; omega, fun x hx => ?_, fun ys p perm srt hp => ?_⟩
      · obtain ⟨g, hg, rfl⟩ := List.mem_map.mp hx
        obtain ⟨bs, hb, e1⟩ := each g hg
        obtain ⟨e2, e3⟩ := uB_ok m bs hb
        refine ⟨bs, ⟨g, rfl, SqT.of e1⟩, e2, fun y hy => ?_⟩
        rcases e3 y hy with rfl | rfl
        · exact ⟨by decide, by decide⟩
        · exact ⟨by decide, by decide⟩
      · obtain ⟨fs2, rfl, perm2⟩ : ∃ fs2 : List Addr, ys = fs2.map V.ref ∧ ∀ g ∈ fs2, g ∈ fs := by
          have all : ∀ y ∈ ys, ∃ g, g ∈ fs ∧ y = .ref g := fun y hy => by
            obtain ⟨g, hg, e⟩ := List.mem_map.mp (perm.mem_iff.mp hy)
            exact ⟨g, hg, e.symm⟩
          exact refs_of ys all
        have sp := same_new (o := .lst (fs2.map V.ref)) hp
        have pm : fs2.Perm fs := perm_ref perm
        have at2 : ∀ g ∈ fs2, H3 g = some (.tup ((contA H3 g).map V.int)) := fun g hg => by
          obtain ⟨bs, _, e⟩ := each g (perm2 g hg)
          rw [contA_eq e]
          exact e
        have e2 : fs2.map (contA H3) = allB m := by
          obtain ⟨u1, u2⟩ := uB_sorted m3
          refine sort_uniq (c := TS.code 2) ((pm.map _).trans (by rw [← hcont]; exact u1)) ?_ u2
          rw [List.pairwise_map]
          rw [List.pairwise_map] at srt
          refine srt.imp_of_mem fun {a b} ha hb z => z _ _ ⟨a, rfl, SqT.of (at2 a ha)⟩ ⟨b, rfl, SqT.of (at2 b hb)⟩
        refine q _ p fs2 (sm.trans sp) (sm.free hp) upd_same ?_
        rw [← e2]
        exact tat_stay (Same.tups sp) (cont_tat at2)
/-! ### all bits, as a law tells them -/
def spAbf : Sp := fun vs H Q _ => ∃ m : Nat, vs = [.int (m : Int)] ∧ 1 ≤ m ∧ m ≤ 3 ∧ ∀ H' p fs, Same H H' → H p = none → H' p = some (.lst (fs.map V.ref)) → TAt H' fs (allB m) → Q (.ref p) H'
theorem hu65_of {k : Nat} {A : Around} (r : Room k A) : A.units + 65 < cLine := by have := r.un; omega
/-! ### slices of tuples (the first part of sec_bent) -/
section slz
variable {X : Cx}
def rSlZ : V → Option Int → Option Int → Hp → VK → Prop := fun x lo hi H Q => ∃ a xs, x = .ref a ∧ H a = some (.tup xs) ∧ ∀ p H2, Same H H2 → H2 p = some (.tup (cutV xs lo hi)) → Q (.ref p) H2
theorem sl_tupZ : SlR X rSlZ := by
  intro pins s σ H x v vl vu lo hi sl Q I rx hs hl hh h
  obtain ⟨a, xs, rfl, ha, q⟩ := h
  refine sl_tupA pins s σ H _ v vl vu lo hi sl Q I rx hs hl hh ⟨a, xs, rfl, SqT.of ha, fun z => ?_, fun _ p hp => q p _ (same_new hp) upd_same⟩
  refine q a H (Same.refl H) ?_
  have e : cutV xs lo hi = xs := by
    unfold cutV
    rw [z.1, z.2, List.drop_zero, Nat.sub_zero, List.take_length]
  rw [e]
  exact ha
end slz
theorem cut_take (xs : List V) (k : Nat) : cutV xs none (some (k : Int)) = xs.take k := by
  unfold cutV
  rw [HT.sIx_none, HT.sIx_nat, List.drop_zero, Nat.sub_zero]
  by_cases h : k ≤ xs.length
  · rw [Nat.min_eq_left h]
  · rw [Nat.min_eq_right (by omega), List.take_length, List.take_of_length_le (by omega)]
theorem cut_drop (xs : List V) (k : Nat) : cutV xs (some (k : Int)) none = xs.drop k := by
  unfold cutV
  rw [HT.sIx_none, HT.sIx_nat]
  by_cases h : k ≤ xs.length
  · rw [Nat.min_eq_left h, List.take_of_length_le (by rw [List.length_drop]; omega)]
  · rw [Nat.min_eq_right (by omega), Nat.sub_self, List.take_zero, List.drop_of_length_le (by omega)]
/-! ### renumbered -/
def renD (nu : List Int) (d : Deed) : Deed := (d.1, d.2.map fun z => nu.getD z.toNat 0)
theorem fw_len {m : Int} {d : Deed} (h : DeedOk m d) : d.2.length ≤ 2 := by
  have := (fw_short _ h.word).2.2
  have e2 : (d.2.length : Int) ≤ 2 := this
  omega
def spRen (K : PySem.W.Frag) : Sp := fun vs H Q _ => ∃ (r L : Addr) (d : Deed) (nu : List Int), vs = [.ref r, .ref L] ∧ H r = some (.tup (dV d)) ∧ DeedOk nu.length d ∧ SqL K H L (nu.map V.int) ∧
  ∀ H' r', Same H H' → H' r' = some (.tup (dV (renD nu d))) → Q (.ref r') H'
theorem ok_ren {f : Addr} {fd : FuncData} {k : Nat} (F : Fun K "renumbered" "renumbered" s_renumbered f fd) (mt : mg "tuple" = none) : FnOk P w K mg base CX0 (k + 1) f fd ["deed", "numbers"] (spRen K) := by
  refine F.ok sc_renumbered (fun vs H Q E h => ?_) (fun cdv A outer s H vs Q E hr h => ?_)
  · obtain ⟨r, L, d, nu, rfl, _⟩ := h
    rfl
  · obtain ⟨r, L, d, nu, rfl, er, okd, eL, q⟩ := h
    refine ⟨_, pss_one (ps_ret (pe_op op_catZ (pe_tup (pa_cons (pe_ix ix_tup (pv 0) pe_int (fun _ _ => rfl)) pa_nil)) (pe_callTy call_tuple_of (by rfl) mt (by decide +kernel) (pa_cons
      (pe_lc (own := [("number", 2)]) (g := gName 2) (by rfl) sc_renumbered.nd (pi_tup (pe_slice sl_tup (pv 0) (po_some pe_int) po_none)) (blkOk_by (own := [("number", 2)]) (N := N_renumbered) (sc := defScope s_renumbered) (by decide +kernel))
        (fun _ _ _ _ _ => pg_name (i := 2) sc_renumbered.nd rfl (Or.inl rfl)) (fun _ _ _ _ _ => pts_nil) (fun _ _ _ _ _ => pe_ix (r := rIxL K) ix_list (pv 1) (pv 2) (fun _ _ => rfl))) pa_nil)))), ?_⟩
    have d2 := fw_len okd
    refine ⟨.ref r, rfl, r, _, 0, .str d.1, rfl, rfl, SqT.of er, dv0 d, (by show 1 ≤ sizeLine; decide), fun U hU => ?_⟩
    have sU := same_new (o := .tup [.str d.1]) hU
    have er1 := sU _ _ er
    refine ⟨.ref r, rfl, 1, rfl, r, dV d, rfl, SqT.of er1, notWhole _ _, fun T hT => ?_⟩
    have eT : cutV (dV d) (some 1) none = d.2.map V.int := cutTail _ _
    rw [eT]
    have sT := sU.trans (same_new (o := .tup (d.2.map V.int)) hT)
    have eU1 : upd (upd H U (.tup [.str d.1])) T (.tup (d.2.map V.int)) U = some (.tup [.str d.1]) := same_new hT _ _ upd_same
    obtain ⟨H3, hH3⟩ : ∃ H3, H3 = upd (upd H U (.tup [.str d.1])) T (.tup (d.2.map V.int)) := ⟨_, rfl⟩
    have eT3 : H3 T = some (.tup (d.2.map V.int)) := by rw [hH3]; exact upd_same
    rw [← hH3] at sT eU1 ⊢
    refine ⟨T, rfl, ⟨_, SqT.of eT3⟩, fun C hC => ?_⟩
    have sC : ∀ o, Same H3 (upd H3 C o) := fun o => same_new hC
    refine lc_tup (K := K) (a := T) (xs := d.2.map V.int) (fun j H4 => H4 = upd H3 C (.lst (((d.2.take j).map fun z => nu.getD z.toNat 0).map V.int))) rfl (fun j H4 _ hp => ?_) (fun j x H4 hx hp => ?_) (fun H4 hp => ?_)
    · rw [hp]
      exact SqT.of (sC _ _ _ eT3)
    · obtain ⟨z, hz, rfl⟩ : ∃ z, d.2[j]? = some z ∧ x = .int z := by
        rw [List.getElem?_map] at hx
        cases e : d.2[j]? with
        | none => rw [e] at hx; cases hx
        | some z => rw [e] at hx; exact ⟨z, rfl, (Option.some.inj hx).symm⟩
      obtain ⟨z0, z1⟩ := okd.ahead z (List.mem_of_getElem? hz)
      subst hp
      refine ⟨rfl, .ref L, rfl, .int z, rfl, L, _, z, _, rfl, rfl, (sT.trans (sC _)).seq eL, atI_ints z0 z1, _, upd_same, ?_, ?_⟩
      · rw [List.length_map, List.length_map, List.length_take]
        exact small1000 (by omega)
      · rw [upd_upd, List.take_add_one, hz]
        simp
    · have eC : H4 C = some (.lst ((renD nu d).2.map V.int)) := by
        rw [hp, upd_same, List.length_map, List.take_length]
        rfl
      have s4 : Same H3 H4 := by rw [hp]; exact sC _
      refine ⟨C, _, rfl, .inl ⟨.inl (.inl eC), fun Z hZ => ?_⟩⟩
      have sZ := same_new (o := .tup ((renD nu d).2.map V.int)) hZ
      refine ⟨U, Z, _, _, rfl, rfl, sZ _ _ (s4 _ _ eU1), upd_same, ?_, fun p H5 s5 e5 => ?_⟩
      · rw [List.length_map]
        show 1 + (d.2.map _).length ≤ sizeLine
        rw [List.length_map]
        exact Nat.le_of_lt (small1000 (by omega))
      · exact q H5 p (sT.trans (s4.trans (sZ.trans s5))) e5
theorem ren_ok {nu : List Int} {d : Deed} {m : Int} (h : DeedOk nu.length d) (hn : ∀ x ∈ nu, 0 ≤ x ∧ x < m) : DeedOk m (renD nu d) := by
  refine ⟨?_, ?_⟩
  · show (d.1, ((d.2.map _).length : Int)) ∈ fwL
    rw [List.length_map]
    exact h.word
  · intro i hi
    obtain ⟨z, hz, rfl⟩ := List.mem_map.mp hi
    obtain ⟨z0, z1⟩ := h.ahead z hz
    have hk : z.toNat < nu.length := by omega
    rw [List.getD_eq_getElem?_getD, List.getElem?_eq_getElem hk]
    exact hn _ (List.getElem_mem hk)
/-! ### list(zip(*ts)) of a list of tuples of one length -/
section zs
variable {A : Around} {E : Value → Shared → Prop} {s : Shared}
abbrev IsZs (h : Heap) (z TI TO : Addr) (f0 : Value) (b : Bool) : Prop := h.get? z = some { cls := .type "zip", dict := none, data := .fields #[f0, .bool b, .bool false, .ref TI, .ref TO], slots := #[] }
theorem zs_free {z TI TO T : Addr} {f : Bool} {oT : Obj} {Q : Bool → Shared → Prop} (hz : IsZs s.heap z TI TO (rawInt T) f) (hT : s.heap.get? T = some oT) (q : ∀ h', IsZs h' z TI TO (rawInt T) true → Heap.SameBut z s.heap h' → Q false { s with heap := h' }) :
    wpAny (model P w) A (Builtin.SmallTypes.ownedTupleIsFree (.ref z)) Q E s := by
  unfold Builtin.SmallTypes.ownedTupleIsFree
  apply wpAny_bind
  refine wpAny_field hz rfl (x := rawInt T) rfl ?_
  show wpAny _ _ (loadIfAlive ((T : Int).toNat) >>= _) _ _ _
  rw [Int.toNat_natCast]
  apply wpAny_bind
  refine PySem.W.kdx_alive hT ?_
  simp only [Option.isNone_some, Bool.false_eq_true, if_false]
  apply wpAny_bind
  refine wpAny_field hz rfl (x := .bool f) rfl ?_
  cases f with
  | true =>
    rw [if_neg (show ¬ ((Value.bool true != Value.bool true) = true) from Bool.false_ne_true)]
    exact wpAny_pure (q s.heap hz (Heap.SameBut.refl _ _))
  | false =>
    rw [if_pos (show (Value.bool false != Value.bool true) = true from rfl)]
    apply wpAny_bind
    exact wpAny_setField_rec hz (by simp) fun h' hz' hs' => wpAny_pure (q h' hz' hs')
theorem forIn_wp {α β : Type} {M : Model} (f : α → β → Sem (ForInStep β)) (Pv : List α → β → Shared → Prop) (Q : β → Shared → Prop)
    (hs : ∀ x l b s, Pv (x :: l) b s → wpAny M A (f x b) (fun r s' => ∃ b', r = .yield b' ∧ Pv l b' s') E s) (he : ∀ b s, Pv [] b s → Q b s) : ∀ (l : List α) (b : β) (s : Shared), Pv l b s → wpAny M A (forIn l b f) Q E s
  | [], b, s, h => by
    rw [List.forIn_nil]
    exact wpAny_pure (he b s h)
  | x :: l, b, s, h => by
    rw [List.forIn_cons]
    apply wpAny_bind
    refine wpAny_mono (hs x l b s h) (fun r s' hr => ?_) (fun _ _ z => z)
    obtain ⟨b', rfl, h'⟩ := hr
    exact forIn_wp f Pv Q hs he l b' s' h'
theorem zs_typeCall (us : List Value) : checkTypeCall "zip" ⟨us, []⟩ = pure () := by kernel_rfl
theorem zs_newCall (u : Value) (us : List Value) : checkBuiltinCall "zip.__new__" ⟨.type "zip" :: u :: us, []⟩ = pure () := by kernel_rfl
theorem zs_initOk (obj : Value) (us : List Value) : argsOk "object.__init__" ⟨obj :: us, []⟩ := by
  unfold argsOk; rw [signature?_of (id := "object.__init__") (n := ['_', '_', 't', 'i', 'n', 'i', '_', '_']) (o := ['t', 'c', 'e', 'j', 'b', 'o']) (by kernel_rfl) F.owner_object]; kernel_rfl
/-- the iterators of so many tuples, made one behind the other -/
def itsH (h : Heap) : List Addr → Heap
  | [] => h
  | l :: ls => itsH (h.push { cls := .type "tuple_iterator", data := .fields #[.ref l, .int 0 0] }) ls
theorem itsH_size : ∀ (ls : List Addr) (h : Heap), (itsH h ls).objs.size = h.objs.size + ls.length
  | [], _ => rfl
  | l :: ls, h => by
    show (itsH (h.push _) ls).objs.size = _
    rw [itsH_size ls, Heap.size_push, List.length_cons]
    omega
theorem itsH_old : ∀ (ls : List Addr) (h : Heap) (c : Addr) (o : Obj), h.get? c = some o → (itsH h ls).get? c = some o
  | [], _, _, _, e => e
  | l :: ls, h, c, o, e => itsH_old ls _ c o (Heap.get?_push_of_some _ e)
theorem itsH_at : ∀ (ls : List Addr) (h : Heap) (j : Nat) (l : Addr), ls[j]? = some l → (itsH h ls).get? (h.objs.size + j) = some { cls := .type "tuple_iterator", data := .fields #[.ref l, .int 0 0] }
  | [], _, _, _, e => by cases e
  | l :: ls, h, 0, l', e => by
    obtain rfl := Option.some.inj e
    exact itsH_old ls _ _ _ (Heap.get?_push_size _ rfl)
  | l :: ls, h, j + 1, l', e => by
    have := itsH_at ls (h.push { cls := .type "tuple_iterator", data := .fields #[.ref l, .int 0 0] }) j l' (by simpa using e)
    rw [Heap.size_push] at this
    rw [show h.objs.size + (j + 1) = h.objs.size + 1 + j by omega]
    exact this
theorem itsH_snoc : ∀ (ls : List Addr) (h : Heap) (l : Addr), itsH h (ls ++ [l]) = (itsH h ls).push { cls := .type "tuple_iterator", data := .fields #[.ref l, .int 0 0] }
  | [], _, _ => rfl
  | _ :: ls, _, l => itsH_snoc ls _ l
theorem zs_iterAll {Q : List Value → Shared → Prop} (ls : List Addr) (ht : ∀ l ∈ ls, ∃ r, s.heap.IsTuple l r) (q : Q ((List.range ls.length).map fun j => Value.ref (s.heap.objs.size + j)) { s with heap := itsH s.heap ls }) :
    wpAny (model P w) A (Builtin.SmallTypes.iterAll (ls.map Value.ref)) Q E s := by
  unfold Builtin.SmallTypes.iterAll
  apply wpAny_bind
  refine forIn_wp _ (fun rest b s' => ∃ k : Nat, k ≤ ls.length ∧ rest = (ls.drop k).map Value.ref ∧ b = ((List.range k).map fun j => Value.ref (s.heap.objs.size + j)).toArray ∧ s' = { s with heap := itsH s.heap (ls.take k) }) _ (fun x l b s' h => ?_) (fun b s' h => ?_) _ _ s ⟨0, Nat.zero_le _, rfl, rfl, rfl⟩
  · obtain ⟨k, hk, hl, rfl, rfl⟩ := h
    have kl : k < ls.length := by
      rcases Nat.lt_or_ge k ls.length with z | z
      · exact z
      · rw [List.drop_eq_nil_of_le z] at hl
        cases hl
    rw [List.drop_eq_getElem_cons kl, List.map_cons] at hl
    obtain ⟨rfl, rfl⟩ := List.cons.inj hl
    obtain ⟨r, hr⟩ := ht ls[k] (List.getElem_mem kl)
    dsimp only
    apply wpAny_bind
    apply wpAny_holding
    refine wpAny_pyIter_tuple (items := r) (s := { s with heap := itsH s.heap (ls.take k) }) (hr.elim fun o e => ⟨o, itsH_old _ _ _ _ e.1, e.2⟩) (wpAny_pure ⟨_, rfl, k + 1, kl, rfl, ?_, ?_⟩)
    · rw [List.range_succ, List.map_append]
      show _ = (_ ++ [Value.ref (s.heap.objs.size + k)]).toArray
      rw [show (itsH s.heap (ls.take k)).objs.size = s.heap.objs.size + k by rw [itsH_size, List.length_take, Nat.min_eq_left hk]]
      simp
    · rw [List.take_add_one, List.getElem?_eq_getElem kl]
      show _ = { s with heap := itsH s.heap (ls.take k ++ [ls[k]]) }
      rw [itsH_snoc]
  · obtain ⟨k, hk, hl, rfl, rfl⟩ := h
    have kl : k = ls.length := by
      have := congrArg List.length hl
      simp at this
      omega
    subst kl
    dsimp only
    rw [List.take_length]
    exact wpAny_pure (by simpa using q)
/-- the call zip(*ts): the zip and its two tuples behind the iterators -/
def zsH (h : Heap) (ls : List Addr) : Heap :=
  (((itsH h ls).push { cls := .type "tuple", data := .seq ((List.range ls.length).map fun j => Value.ref (h.objs.size + j)).toArray }).push { cls := .type "tuple", data := .seq (((List.range ls.length).map fun j => Value.ref (h.objs.size + j)).map fun _ => Value.none).toArray }).push
    { cls := .type "zip", dict := none, data := .fields #[.none, .bool false, .bool false, .ref (h.objs.size + ls.length), .ref (h.objs.size + ls.length + 1)], slots := #[] }
theorem zs_newClass (us : List Value) : Builtin.SmallTypes.newClass "zip" ⟨.type "zip" :: us, []⟩ = pure (.type "zip", us) := by
  unfold Builtin.SmallTypes.newClass
  have e : isType (.type "zip") = pure true := rfl
  simp only [e, pure_bind, sub_zip, Bool.not_true, Bool.false_eq_true, if_false]
theorem zs_new (l : Addr) (ls : List Addr) : Meets (Builtin.«zip.__new__» ⟨.type "zip" :: .ref l :: ls.map Value.ref, []⟩) (fun _ R s => (l :: ls).length ≤ 1000000 ∧ (∀ x ∈ l :: ls, ∃ r, s.heap.IsTuple x r) ∧
    R (.ok (.ret (.ref (s.heap.objs.size + (l :: ls).length + 2)))) { s with heap := zsH s.heap (l :: ls) }) :=
  .of_wp fun prog w A R s h => by
    obtain ⟨hz, ht, h⟩ := h
    have len : ((List.range (l :: ls).length).map fun j => Value.ref (s.heap.objs.size + j)).length = (l :: ls).length := by rw [List.length_map, List.length_range]
    have zl : ∀ n, n ≤ 1000000 → n ≤ sizeLine := fun n hn => by rw [sizeLine_eq]; omega
    unfold Builtin.«zip.__new__»
    rw [zs_newClass]
    apply wpAny_bind
    apply wpAny_pure
    dsimp only
    simp only [List.length_nil, gt_iff_lt, Nat.not_lt_zero, if_false]
    apply wpAny_bind
    refine zs_iterAll (l :: ls) ht ?_
    try apply wpAny_bind
    refine wpAny_newTuple ?_ (by rw [len]; exact zl _ hz)
    try apply wpAny_bind
    refine wpAny_newTuple ?_ (by rw [List.length_map, len]; exact zl _ hz)
    try apply wpAny_bind
    refine wpAny_newObj_type (data := .fields #[.none, .bool false, .bool false, .ref _, .ref _]) ?_ (by show 5 ≤ sizeLine + 2; decide)
    refine wpAny_pure ⟨_, rfl, ?_⟩
    have e1 : (itsH s.heap (l :: ls)).objs.size = s.heap.objs.size + (l :: ls).length := itsH_size _ _
    have e2 : ((itsH s.heap (l :: ls)).push { cls := .type "tuple", data := .seq ((List.range (l :: ls).length).map fun j => Value.ref (s.heap.objs.size + j)).toArray }).objs.size = s.heap.objs.size + (l :: ls).length + 1 := by rw [Heap.size_push, e1]
    simp only [Heap.size_push, e1]
    exact h
theorem zs_call {Q : Value → Shared → Prop} (l : Addr) (ls : List Addr) (hz : (l :: ls).length ≤ 1000000) (ht : ∀ x ∈ l :: ls, ∃ r, s.heap.IsTuple x r) (q : Q (.ref (s.heap.objs.size + (l :: ls).length + 2)) { s with heap := zsH s.heap (l :: ls) }) :
    wpAny (model P w) A (call (.type "zip") ((l :: ls).map Value.ref)) Q E s := by
  show wpAny _ _ (call (.type "zip") (.ref l :: ls.map Value.ref)) _ _ _
  refine callType_new F.called_zip (by decide) (zs_typeCall _) (zs_newCall _ _) (fun obj => zs_initOk obj _) F.entry_zip_new (zs_new l ls) ⟨hz, ht, ?_⟩
  refine ⟨⟨{ cls := .type "zip", dict := none, data := .fields #[.none, .bool false, .bool false, .ref (s.heap.objs.size + (l :: ls).length), .ref (s.heap.objs.size + (l :: ls).length + 1)], slots := #[] }, ?_, rfl⟩, q⟩
  show (zsH s.heap (l :: ls)).get? _ = some _
  have e1 : (itsH s.heap (l :: ls)).objs.size = s.heap.objs.size + (l :: ls).length := itsH_size _ _
  unfold zsH
  have : s.heap.objs.size + (l :: ls).length + 2 = (((itsH s.heap (l :: ls)).push { cls := .type "tuple", data := .seq ((List.range (l :: ls).length).map fun j => Value.ref (s.heap.objs.size + j)).toArray }).push { cls := .type "tuple", data := .seq (((List.range (l :: ls).length).map fun j => Value.ref (s.heap.objs.size + j)).map fun _ => Value.none).toArray }).objs.size := by
    rw [Heap.size_push, Heap.size_push, e1]
  rw [this]
  exact Heap.get?_push_size _ rfl
end zs
section zs
variable {A : Around} {E : Value → Shared → Prop} {s : Shared}
abbrev WsT := Addr × Addr × Array Value
/-- an iterator over each tuple, all at one place -/
def ItsAt (h : Heap) (i : Nat) (ws : List WsT) : Prop := ∀ t ∈ ws, h.IsTupleIter t.1 t.2.1 i ∧ h.IsTuple t.2.1 t.2.2
abbrev IsT (h : Heap) (T : Addr) (vs : List Value) : Prop := h.get? T = some { cls := .type "tuple", data := .seq vs.toArray }
structure ZsApart (z TI TO : Addr) (ws : List WsT) : Prop where
  TIz : TI ≠ z
  TOz : TO ≠ z
  TITO : TI ≠ TO
  it : ∀ t ∈ ws, t.1 ≠ z ∧ t.1 ≠ TI ∧ t.1 ≠ TO ∧ t.2.1 ≠ z ∧ t.2.1 ≠ TO
  nd : (ws.map (·.1)).Nodup
  lt : ∀ t ∈ ws, ∀ u ∈ ws, t.2.1 ≠ u.1
def colV (ws : List WsT) (i : Nat) : List Value := ws.map fun t => t.2.2.getD i .none
/-- the iterators so far drawn from -/
structure DrawnAt (s0 : Shared) (z TI TO : Addr) (i : Nat) (ws : List WsT) (k : Nat) (h : Heap) : Prop where
  size : h.objs.size = s0.heap.objs.size
  at' : ∀ (j : Nat) u, ws[j]? = some u → h.IsTupleIter u.1 u.2.1 (if j < k then i + 1 else i)
theorem nodup_at {ws : List WsT} (nd : (ws.map (·.1)).Nodup) {j k : Nat} {u t : WsT} (hj : ws[j]? = some u) (hk : ws[k]? = some t) (e : u.1 = t.1) : j = k := by
  have hj' : (ws.map (·.1))[j]? = some u.1 := by rw [List.getElem?_map, hj]; rfl
  have hk' : (ws.map (·.1))[k]? = some t.1 := by rw [List.getElem?_map, hk]; rfl
  have jl := (List.getElem?_eq_some_iff.mp hj').1
  exact (List.getElem?_inj jl nd).mp (hj'.trans ((congrArg some e).trans hk'.symm))
theorem zs_next_out {z TI TO T : Addr} {i : Nat} {ws : List WsT} {f : Bool} {oT : Obj} {Q : Value → Shared → Prop} (D : ZsApart z TI TO ws) (ne : ws ≠ []) (wl : ws.length ≤ 1000000) (hz : IsZs s.heap z TI TO (rawInt T) f) (hT : s.heap.get? T = some oT)
    (hTI : IsT s.heap TI (ws.map fun t => .ref t.1)) (at' : ItsAt s.heap i ws) (hi : ∀ t ∈ ws, i < t.2.2.size)
    (q : ∀ h', IsZs h' z TI TO (rawInt T) true → ItsAt h' (i + 1) ws → IsT h' s.heap.objs.size (colV ws i) → h'.objs.size = s.heap.objs.size + 1 → (∀ c o, c ≠ z → (∀ t ∈ ws, c ≠ t.1) → s.heap.get? c = some o → h'.get? c = some o) → Q (.ref s.heap.objs.size) { s with heap := h' }) :
    wpAny (model P w) A (Builtin.«zip.__next__» ⟨[.ref z], []⟩) (fun fin s' => ∃ v, fin = .done (.ret v) ∧ Q v s') E s := by
  show wpAny _ _ (field (.ref z) 2 >>= _) _ _ _
  apply wpAny_bind
  refine wpAny_field hz rfl (x := .bool false) rfl ?_
  show wpAny _ _ (field (.ref z) 3 >>= _) _ _ _
  apply wpAny_bind
  refine wpAny_field hz rfl (x := .ref TI) rfl ?_
  apply wpAny_bind
  refine wpAny_seqItems hTI rfl ?_
  have e0 : (ws.map fun t => Value.ref t.1).toArray.isEmpty = false := by
    cases ws with
    | nil => exact absurd rfl ne
    | cons t ws => simp
  dsimp only
  simp only [e0, Bool.false_eq_true, if_false]
  show wpAny _ _ (Builtin.SmallTypes.ownedTupleIsFree (.ref z) >>= _) _ _ _
  apply wpAny_bind
  refine zs_free hz hT fun h₁ hz₁ hs₁ => ?_
  simp only [Bool.false_eq_true, if_false]
  apply wpAny_bind
  simp only [← Array.forIn_toList]
  refine forIn_wp _ (fun rest b s' => ∃ (k : Nat) (h : Heap), k ≤ ws.length ∧ rest = (ws.drop k).map (fun t => Value.ref t.1) ∧ b = (none, (colV (ws.take k) i).toArray) ∧ s' = { s with heap := h } ∧ DrawnAt s z TI TO i ws k h ∧ IsZs h z TI TO (rawInt T) true ∧ ∀ c o, c ≠ z → (∀ t ∈ ws, c ≠ t.1) → s.heap.get? c = some o → h.get? c = some o) _ (fun x l b s' hp => ?_) (fun b s' hp => ?_) _ _ _ ⟨0, h₁, Nat.zero_le _, rfl, rfl, rfl, ⟨hs₁.1, fun j u hj => ?_⟩, hz₁, fun c o c1 _ e => hs₁.extBut c o c1 e⟩
  · obtain ⟨k, h, hk, hl, rfl, rfl, dr, hzk, kp⟩ := hp
    have kl : k < ws.length := by
      rcases Nat.lt_or_ge k ws.length with z | z
      · exact z
      · rw [List.drop_eq_nil_of_le z] at hl
        cases hl
    rw [List.drop_eq_getElem_cons kl, List.map_cons] at hl
    obtain ⟨rfl, rfl⟩ := List.cons.inj hl
    obtain ⟨t, ht⟩ : ∃ t, t = ws[k] := ⟨_, rfl⟩
    have hkt : ws[k]? = some t := by rw [ht]; exact List.getElem?_eq_getElem kl
    have tm := List.mem_of_getElem? hkt
    rw [← ht]
    have hit := dr.at' k t hkt
    rw [if_neg (Nat.lt_irrefl k)] at hit
    obtain ⟨_, d2, d3, d4, d5⟩ := D.it t tm
    have htup : h.IsTuple t.2.1 t.2.2 := (at' t tm).2.elim fun o e => ⟨o, kp _ _ d4 (fun u hu => D.lt t tm u hu) e.1, e.2⟩
    have lt := hi t tm
    dsimp only
    apply wpAny_bind
    apply wpAny_holding
    show wpAny _ _ (Builtin.SmallTypes.nextOf (.ref t.1) >>= _) _ _ _
    apply wpAny_bind
    refine wpAny_nextOf_tuple_item (s := { s with heap := h }) hit htup (x := t.2.2.getD i .none) (by rw [Array.getD_eq_getD_getElem?, Array.getElem?_eq_getElem lt]; rfl) fun h2 hit2 hs2 => wpAny_pure ?_
    refine wpAny_pure ⟨_, rfl, k + 1, h2, kl, rfl, ?_, rfl, ⟨hs2.1.trans dr.size, fun j u hj => ?_⟩, hs2.extBut _ _ (Ne.symm (D.it t tm).1) hzk, fun c o c1 c2 e => hs2.extBut _ _ (c2 t tm) (kp c o c1 c2 e)⟩
    · unfold colV
      rw [List.take_add_one, hkt, List.map_append]
      simp
    · by_cases e : j = k
      · subst e
        rw [hkt] at hj
        obtain rfl := Option.some.inj hj
        rw [if_pos (Nat.lt_succ_self _)]
        exact hit2
      · have h0 := dr.at' j u hj
        have : (if j < k + 1 then i + 1 else i) = if j < k then i + 1 else i := by
          by_cases h1 : j < k
          · rw [if_pos h1, if_pos (Nat.lt_succ_of_lt h1)]
          · rw [if_neg h1, if_neg (by omega)]
        rw [this]
        exact h0.extBut hs2.extBut fun z => e (nodup_at D.nd hj hkt z)
  · obtain ⟨k, h, hk, hl, rfl, rfl, dr, hzk, kp⟩ := hp
    have kl : k = ws.length := by
      have := congrArg List.length hl
      simp at this
      omega
    subst kl
    rw [List.take_length]
    dsimp only
    apply wpAny_bind
    refine wpAny_newTuple ?_ (by unfold colV; simp; rw [sizeLine_eq]; omega)
    refine wpAny_pure ⟨_, rfl, ?_⟩
    show Q (.ref h.objs.size) _
    rw [dr.size]
    refine q _ (Heap.get?_push_of_some _ hzk) (fun t ht => ?_) ?_ ?_ fun c o c1 c2 e => Heap.get?_push_of_some _ (kp c o c1 c2 e)
    · obtain ⟨j, hj⟩ := List.mem_iff_getElem?.mp ht
      have jl := (List.getElem?_eq_some_iff.mp hj).1
      have h0 := dr.at' j t hj
      rw [if_pos jl] at h0
      obtain ⟨_, d2, d3, d4, d5⟩ := D.it t ht
      exact ⟨h0.elim fun o e => ⟨o, Heap.get?_push_of_some _ e.1, e.2⟩, (at' t ht).2.elim fun o e => ⟨o, Heap.get?_push_of_some _ (kp _ _ d4 (fun u hu => D.lt t ht u hu) e.1), e.2⟩⟩
    · rw [← dr.size]
      exact Heap.get?_push_size _ rfl
    · rw [Heap.size_push, dr.size]
  · rw [if_neg (Nat.not_lt_zero _)]
    have um := List.mem_of_getElem? hj
    exact (at' u um).1.extBut hs₁.extBut (D.it u um).1
end zs
section zs
variable {A : Around} {E : Value → Shared → Prop} {s : Shared}
theorem updateSeq_T {T : Addr} {vs : List Value} {x : Value} {k : Nat} {Q : Unit → Shared → Prop} (hT : IsT s.heap T vs) (hl : vs.length ≤ 1000000) (h : ∀ h', IsT h' T (vs.set k x) → Heap.SameBut T s.heap h' → Q () { s with heap := h' }) :
    wpAny (model P w) A (updateSeq T (·.setIfInBounds k x)) Q E s := by
  have sl := sizeLine_eq
  refine wpAny_updateSeq hT rfl (h _ ?_ (Heap.SameBut.update ..)) (by rw [List.size_toArray]; omega) (by rw [Array.size_setIfInBounds, List.size_toArray]; omega)
  show _ = some _
  rw [Heap.get?_update_self _ hT rfl]
  simp [Obj.mapSeq]
theorem set_mid {α : Type} (l : List α) (x : α) : ∀ (a : List α), (a ++ l).set a.length x = a ++ l.set 0 x
  | [] => rfl
  | _ :: a => congrArg (_ :: ·) (set_mid l x a)
theorem zs_next_first {z TI TO : Addr} {i : Nat} {ws : List WsT} {vs : List Value} {Q : Value → Shared → Prop} (D : ZsApart z TI TO ws) (ne : ws ≠ []) (wl : ws.length ≤ 1000000) (hz : IsZs s.heap z TI TO .none false)
    (hTI : IsT s.heap TI (ws.map fun t => .ref t.1)) (hTO : IsT s.heap TO vs) (vl : vs.length = ws.length) (at' : ItsAt s.heap i ws) (hi : ∀ t ∈ ws, i < t.2.2.size)
    (q : ∀ h', IsZs h' z TI TO (rawInt s.heap.objs.size) false → IsT h' TO (colV ws i) → ItsAt h' (i + 1) ws → IsT h' s.heap.objs.size (colV ws i) → h'.objs.size = s.heap.objs.size + 1 → (∀ c o, c ≠ z → c ≠ TO → (∀ t ∈ ws, c ≠ t.1) → s.heap.get? c = some o → h'.get? c = some o) → Q (.ref s.heap.objs.size) { s with heap := h' }) :
    wpAny (model P w) A (Builtin.«zip.__next__» ⟨[.ref z], []⟩) (fun fin s' => ∃ v, fin = .done (.ret v) ∧ Q v s') E s := by
  show wpAny _ _ (field (.ref z) 2 >>= _) _ _ _
  apply wpAny_bind
  refine wpAny_field hz rfl (x := .bool false) rfl ?_
  show wpAny _ _ (field (.ref z) 3 >>= _) _ _ _
  apply wpAny_bind
  refine wpAny_field hz rfl (x := .ref TI) rfl ?_
  apply wpAny_bind
  refine wpAny_seqItems hTI rfl ?_
  have e0 : (ws.map fun t => Value.ref t.1).toArray.isEmpty = false := by
    cases ws with
    | nil => exact absurd rfl ne
    | cons t ws => simp
  dsimp only
  simp only [e0, Bool.false_eq_true, if_false]
  show wpAny _ _ (Builtin.SmallTypes.ownedTupleIsFree (.ref z) >>= _) _ _ _
  apply wpAny_bind
  unfold Builtin.SmallTypes.ownedTupleIsFree
  refine wpAny_bind (wpAny_field hz rfl (x := .none) rfl (wpAny_pure ?_))
  simp only [if_true]
  refine wpAny_bind (wpAny_rule ?_)
  refine wpAny_bind (wpAny_field hz rfl (x := .ref TO) rfl ?_)
  refine wpAny_bind (wpAny_setField_rec hz (by simp) fun g0 hz0 hs0 => ?_)
  refine wpAny_bind ?_
  refine forIn_wp _ (fun rest b s' => ∃ (k : Nat) (h : Heap), k ≤ ws.length ∧ rest = ((ws.drop k).map (fun t => Value.ref t.1)).zipIdx k ∧ b = (none, ()) ∧ s' = { s with heap := h } ∧ DrawnAt s z TI TO i ws k h ∧ IsZs h z TI TO .ellipsis false ∧ IsT h TO (colV (ws.take k) i ++ vs.drop k) ∧ ∀ c o, c ≠ z → c ≠ TO → (∀ t ∈ ws, c ≠ t.1) → s.heap.get? c = some o → h.get? c = some o) _ (fun x l b s' hp => ?_) (fun b s' hp => ?_) _ _ _ ⟨0, g0, Nat.zero_le _, rfl, rfl, rfl, ⟨hs0.1, fun j u hj => ?_⟩, hz0, hs0.extBut _ _ D.TOz hTO, fun c o c1 _ _ e => hs0.extBut c o c1 e⟩
  · obtain ⟨k, h, hk, hl, rfl, rfl, dr, hzk, hTk, kp⟩ := hp
    have kl : k < ws.length := by
      rcases Nat.lt_or_ge k ws.length with z | z
      · exact z
      · rw [List.drop_eq_nil_of_le z] at hl
        cases hl
    rw [List.drop_eq_getElem_cons kl, List.map_cons, List.zipIdx_cons] at hl
    obtain ⟨rfl, rfl⟩ := List.cons.inj hl
    obtain ⟨t, ht⟩ : ∃ t, t = ws[k] := ⟨_, rfl⟩
    have hkt : ws[k]? = some t := by rw [ht]; exact List.getElem?_eq_getElem kl
    have tm := List.mem_of_getElem? hkt
    rw [← ht]
    have hit := dr.at' k t hkt
    rw [if_neg (Nat.lt_irrefl k)] at hit
    obtain ⟨d1, d2, d3, d4, d5⟩ := D.it t tm
    have htup : h.IsTuple t.2.1 t.2.2 := (at' t tm).2.elim fun o e => ⟨o, kp _ _ d4 d5 (fun u hu => D.lt t tm u hu) e.1, e.2⟩
    have lt := hi t tm
    have cl : (colV (ws.take k) i).length = k := by
      unfold colV
      rw [List.length_map, List.length_take, Nat.min_eq_left hk]
    dsimp only
    apply wpAny_bind
    refine wpAny_onRaise ?_
    show wpAny _ _ (Builtin.SmallTypes.nextOf (.ref t.1) >>= _) _ _ _
    apply wpAny_bind
    refine wpAny_nextOf_tuple_item (s := { s with heap := h }) hit htup (x := t.2.2.getD i .none) (by rw [Array.getD_eq_getD_getElem?, Array.getElem?_eq_getElem lt]; rfl) fun h2 hit2 hs2 => wpAny_pure ?_
    have hT2 := hs2.extBut _ _ (Ne.symm d3) hTk
    refine wpAny_bind (wpAny_seqItems (s := { s with heap := h2 }) hT2 rfl ?_)
    dsimp only
    refine wpAny_bind (updateSeq_T (s := { s with heap := h2 }) hT2 (by rw [List.length_append, cl, List.length_drop]; omega) fun h3 hT3 hs3 => ?_)
    refine wpAny_bind (wpAny_letGo (wpAny_pure ⟨_, rfl, k + 1, h3, kl, rfl, rfl, rfl, ⟨hs3.1.trans (hs2.1.trans dr.size), fun j u hj => ?_⟩, hs3.extBut _ _ D.TOz.symm (hs2.extBut _ _ (Ne.symm d1) hzk), ?_, fun c o c1 c2 c3 e => hs3.extBut _ _ c2 (hs2.extBut _ _ (c3 t tm) (kp c o c1 c2 c3 e))⟩))
    · have um := List.mem_of_getElem? hj
      by_cases e : j = k
      · subst e
        rw [hkt] at hj
        obtain rfl := Option.some.inj hj
        rw [if_pos (Nat.lt_succ_self _)]
        exact hit2.extBut hs3.extBut d3
      · have h0 := dr.at' j u hj
        have : (if j < k + 1 then i + 1 else i) = if j < k then i + 1 else i := by
          by_cases h1 : j < k
          · rw [if_pos h1, if_pos (Nat.lt_succ_of_lt h1)]
          · rw [if_neg h1, if_neg (by omega)]
        rw [this]
        exact (h0.extBut hs2.extBut fun z => e (nodup_at D.nd hj hkt z)).extBut hs3.extBut (D.it u um).2.2.1
    · have e1 : colV (ws.take (k + 1)) i ++ vs.drop (k + 1) = (colV (ws.take k) i ++ vs.drop k).set k (t.2.2.getD i .none) := by
        have e2 := set_mid (vs.drop k) (t.2.2.getD i .none) (colV (ws.take k) i)
        rw [cl] at e2
        rw [e2, List.drop_eq_getElem_cons (show k < vs.length by omega), List.set_cons_zero]
        unfold colV
        rw [List.take_add_one, hkt, List.map_append, List.append_assoc]
        rfl
      rw [e1]
      exact hT3
  · obtain ⟨k, h, hk, hl, rfl, rfl, dr, hzk, hTk, kp⟩ := hp
    have kl : k = ws.length := by
      have := congrArg List.length hl
      simp at this
      omega
    subst kl
    rw [List.take_length, List.drop_eq_nil_of_le (by omega), List.append_nil] at hTk
    have cl : (colV ws i).length = ws.length := by
      unfold colV
      rw [List.length_map]
    dsimp only
    refine wpAny_bind (wpAny_seqItems (s := { s with heap := h }) hTk rfl ?_)
    dsimp only
    apply wpAny_bind
    refine wpAny_newTuple ?_ (by show (colV ws i).length ≤ sizeLine; rw [cl, sizeLine_eq]; omega)
    try simp only [List.toList_toArray]
    have hzlt : z < h.objs.size := Heap.lt_size hzk
    show wpAny _ _ (Builtin.SmallTypes.ownedTupleHandOut (.ref z) (.ref h.objs.size) >>= _) _ _ _
    refine wpAny_bind ?_
    unfold Builtin.SmallTypes.ownedTupleHandOut
    have hz6 : IsZs (h.push { cls := .type "tuple", data := .seq (colV ws i).toArray }) z TI TO .ellipsis false := Heap.get?_push_of_some _ hzk
    refine wpAny_bind (wpAny_setField_rec hz6 (by simp) fun h7 hz7 hs7 => ?_)
    replace hz7 : IsZs h7 z TI TO (rawInt h.objs.size) false := hz7
    refine wpAny_setField_rec hz7 (by simp) fun h8 hz8 hs8 => ?_
    replace hz8 : IsZs h8 z TI TO (rawInt h.objs.size) false := hz8
    replace hs7 : Heap.SameBut z (h.push { cls := .type "tuple", data := .seq (colV ws i).toArray }) h7 := hs7
    replace hs8 : Heap.SameBut z h7 h8 := hs8
    have up : ∀ c o, c ≠ z → h.get? c = some o → h8.get? c = some o := fun c o c1 e => hs8.extBut _ _ c1 (hs7.extBut _ _ c1 (Heap.get?_push_of_some _ e))
    have hT8 : IsT h8 h.objs.size (colV ws i) := hs8.extBut _ _ (Nat.ne_of_gt hzlt) (hs7.extBut _ _ (Nat.ne_of_gt hzlt) (Heap.get?_push_size _ rfl))
    have hsz : h8.objs.size = h.objs.size + 1 := by rw [hs8.1, hs7.1, Heap.size_push]
    refine wpAny_pure ⟨_, rfl, ?_⟩
    show Q (.ref h.objs.size) _
    rw [dr.size] at hz8 hT8 hsz ⊢
    refine q _ hz8 (up _ _ D.TOz hTk) (fun t ht => ?_) hT8 hsz fun c o c1 c2 c3 e => up c o c1 (kp c o c1 c2 c3 e)
    obtain ⟨j, hj⟩ := List.mem_iff_getElem?.mp ht
    have jl := (List.getElem?_eq_some_iff.mp hj).1
    have h0 := dr.at' j t hj
    rw [if_pos jl] at h0
    obtain ⟨d1, d2, d3, d4, d5⟩ := D.it t ht
    exact ⟨h0.elim fun o e => ⟨o, up _ _ d1 e.1, e.2⟩, (at' t ht).2.elim fun o e => ⟨o, up _ _ d4 (kp _ _ d4 d5 (fun u hu => D.lt t ht u hu) e.1), e.2⟩⟩
  · rw [if_neg (Nat.not_lt_zero _)]
    have um := List.mem_of_getElem? hj
    exact (at' u um).1.extBut hs0.extBut (D.it u um).1
theorem zs_end_out {z TI TO T : Addr} {i : Nat} {ws : List WsT} {f : Bool} {oT : Obj} {Q : Option Value → Shared → Prop} (hh : A.handled = none) (D : ZsApart z TI TO ws) (t0 : WsT) (ws0 : List WsT) (e0 : ws = t0 :: ws0) (hz : IsZs s.heap z TI TO (rawInt T) f) (hT : s.heap.get? T = some oT)
    (hTI : IsT s.heap TI (ws.map fun t => .ref t.1)) (at' : ItsAt s.heap i ws) (hi : t0.2.2.size = i)
    (q : ∀ h', (∀ c o, c ≠ z → (∀ t ∈ ws, c ≠ t.1) → s.heap.get? c = some o → h'.get? c = some o) → Q none { s with heap := h' }) :
    wpAny (model P w) A (pyNext (.ref z)) Q E s := by
  have ty : s.TypeIs (.ref z) "zip" := ⟨_, hz, rfl⟩
  unfold pyNext
  apply wpAny_bind
  apply wpAny_attempt
  refine wpAny_callSpecial?_slot (name := Str.ofString "__next__") ty F.slot_zip_next ?_
  refine wpAny_call_entry F.slot_zip_next ty F.entry_zip_next ?_ (F.args_zip_next_1 _)
  show wpAny _ _ (field (.ref z) 2 >>= _) _ _ _
  apply wpAny_bind
  refine wpAny_field hz rfl (x := .bool false) rfl ?_
  show wpAny _ _ (field (.ref z) 3 >>= _) _ _ _
  apply wpAny_bind
  refine wpAny_field hz rfl (x := .ref TI) rfl ?_
  apply wpAny_bind
  refine wpAny_seqItems hTI rfl ?_
  have e1 : (ws.map fun t => Value.ref t.1).toArray.isEmpty = false := by
    rw [e0]
    simp
  dsimp only
  simp only [e1, Bool.false_eq_true, if_false]
  show wpAny _ _ (Builtin.SmallTypes.ownedTupleIsFree (.ref z) >>= _) _ _ _
  apply wpAny_bind
  refine zs_free hz hT fun h₁ hz₁ hs₁ => ?_
  simp only [Bool.false_eq_true, if_false]
  apply wpAny_bind
  simp only [← Array.forIn_toList]
  rw [show (ws.map fun t => Value.ref t.1) = .ref t0.1 :: ws0.map fun t => Value.ref t.1 by rw [e0]; rfl, List.forIn_cons]
  have tm : t0 ∈ ws := by rw [e0]; exact List.mem_cons_self
  obtain ⟨d1, d2, d3, d4, d5⟩ := D.it t0 tm
  apply wpAny_bind
  dsimp only
  apply wpAny_bind
  apply wpAny_holding
  show wpAny _ _ (Builtin.SmallTypes.nextOf (.ref t0.1) >>= _) _ _ _
  apply wpAny_bind
  refine wpAny_nextOf_tuple_end (s := { s with heap := h₁ }) hh ((at' t0 tm).1.extBut hs₁.extBut d1) ((at' t0 tm).2.extBut hs₁.extBut d4) (by rw [← hi]; exact Array.getElem?_eq_none (Nat.le_refl _)) fun h₂ e hs₂ he => ?_
  obtain ⟨o, ho, hc⟩ := he
  apply wpAny_bind
  refine wpAny_isInstance (T := "StopIteration") (b := true) ⟨o, ho, hc⟩ isSubtype_stop ?_
  exact wpAny_pure (q h₂ fun c o c1 c2 e => hs₂ c o (c2 t0 tm) (hs₁.extBut c o c1 e))
end zs
section zs
variable {A : Around} {E : Value → Shared → Prop} {s : Shared}
theorem zs_pyNext {z TI TO : Addr} {i : Nat} {Q : Option Value → Shared → Prop} {R : Value → Shared → Prop} (ty : s.TypeIs (.ref z) "zip") (h : wpAny (model P w) A.in1 (Builtin.«zip.__next__» ⟨[.ref z], []⟩) (fun fin s' => ∃ v, fin = .done (.ret v) ∧ R v s') (fun _ _ => False) s) (q : ∀ v s', R v s' → Q (some v) s') :
    wpAny (model P w) A (pyNext (.ref z)) Q E s := by
  unfold pyNext
  apply wpAny_bind
  apply wpAny_attempt
  refine wpAny_callSpecial?_slot (name := Str.ofString "__next__") ty F.slot_zip_next ?_
  refine wpAny_call_entry F.slot_zip_next ty F.entry_zip_next ?_ (F.args_zip_next_1 _)
  refine wpAny_mono h (fun fin s' hf => ?_) (fun _ _ z => z.elim)
  obtain ⟨v, rfl, hv⟩ := hf
  exact ⟨v, rfl, wpAny_pure (q v s' hv)⟩
/-- the tuples that were made -/
structure MadeZs (ws : List WsT) (lo : Addr) (h : Heap) (as : List Addr) : Prop where
  rise : as.Pairwise (· < ·)
  above : ∀ a ∈ as, lo < a
  cols : ∀ (j : Nat) a, as[j]? = some a → IsT h a (colV ws j)
def ZsAt (h : Heap) (z TI TO : Addr) (ws : List WsT) (i : Nat) (as : List Addr) : Prop := IsT h TI (ws.map fun t => .ref t.1) ∧ (∃ vs, IsT h TO vs ∧ vs.length = ws.length) ∧ ItsAt h i ws ∧ ((i = 0 ∧ IsZs h z TI TO .none false) ∨ ∃ T f, T ∈ as ∧ IsZs h z TI TO (rawInt T) f)
theorem zs_loop {S z TI TO : Addr} {ws : List WsT} {n : Nat} (hh : A.handled = none) (D : ZsApart z TI TO ws) (ne : ws ≠ []) (wl : ws.length ≤ 1000000) (hn : ∀ t ∈ ws, t.2.2.size = n) (n1 : 1 ≤ n) (hSz : S ≠ z) (hSI : S ≠ TI) (hSO : S ≠ TO) (hSi : ∀ t ∈ ws, S ≠ t.1 ∧ S ≠ t.2.1)
    (lo : Addr) (hlo : z ≤ lo ∧ TI ≤ lo ∧ TO ≤ lo ∧ (∀ t ∈ ws, t.1 ≤ lo) ∧ S ≤ lo) (hn6 : n ≤ 1000000) (res : Value) {h₁ : Heap} {R : Result → Shared → Prop}
    (hR : ∀ h' tk acc c as, (∀ b o, b ≠ S → b ≠ z → b ≠ TO → (∀ t ∈ ws, b ≠ t.1) → h₁.get? b = some o → h'.get? b = some o) → h'.get? S = some { cls := .type "list", dict := none, data := .seq acc c, slots := #[] } → as.length = n → MadeZs ws lo h' as →
      acc.toList = as.map Value.ref → R (.ok (.ret res)) { s with heap := h', toks := tk }) :
    ∀ (k i : Nat) (h : Heap) (tk c : Nat) (acc : Array Value) (as : List Addr), n - i = k → i ≤ n → ZsAt h z TI TO ws i as → (∀ b o, b ≠ S → b ≠ z → b ≠ TO → (∀ t ∈ ws, b ≠ t.1) → h₁.get? b = some o → h.get? b = some o) →
      h.get? S = some { cls := .type "list", dict := none, data := .seq acc c, slots := #[] } → acc.toList = as.map Value.ref → as.length = i → MadeZs ws lo h as → lo < h.objs.size →
      codeAny (model P w) A (.builtin "list.extend.loop" ⟨[.ref S, .ref z, res], []⟩) R { s with heap := h, toks := tk } := by
  have sl := sizeLine_eq
  have far : ∀ u : Addr, lo < u → u ≠ z ∧ u ≠ TO ∧ (∀ t ∈ ws, u ≠ t.1) ∧ u ≠ S := fun u hu => ⟨Nat.ne_of_gt (Nat.lt_of_le_of_lt hlo.1 hu), Nat.ne_of_gt (Nat.lt_of_le_of_lt hlo.2.2.1 hu), fun t ht => Nat.ne_of_gt (Nat.lt_of_le_of_lt (hlo.2.2.2.1 t ht) hu), Nat.ne_of_gt (Nat.lt_of_le_of_lt hlo.2.2.2.2 hu)⟩
  intro k
  induction k with
  | zero =>
    intro i h tk c acc as hk hi hz keep hS hacc hal hG hls
    obtain ⟨hTI, ⟨vs, hTO, vl⟩, hat, st⟩ := hz
    have ein : i = n := by omega
    subst ein
    refine codeAny_builtin F.entry_extend_loop ?_
    rw [Around.under_plainId F.plain_extend_loop _]
    show wpAny _ A.in1 (pyNext (.ref z) >>= _) _ _ _
    apply wpAny_bind
    rcases st with ⟨rfl, hz0⟩ | ⟨T, f, hT, hz1⟩
    · omega
    · obtain ⟨j, hj⟩ := List.mem_iff_getElem?.mp hT
      obtain ⟨t0, ws0, e0⟩ : ∃ t0 ws0, ws = t0 :: ws0 := by
        cases ws with
        | nil => exact absurd rfl ne
        | cons t ws => exact ⟨t, ws, rfl⟩
      have t0m : t0 ∈ ws := by rw [e0]; exact List.mem_cons_self
      refine zs_end_out (s := { s with heap := h, toks := tk }) (A := A.in1) hh D t0 ws0 e0 hz1 (hG.cols j T hj) hTI hat (hn t0 t0m) fun h' kp => wpAny_pure ?_
      refine hR h' tk acc c as (fun b o n1 n2 n3 n4 e => kp b o n2 n4 (keep b o n1 n2 n3 n4 e)) (kp S _ hSz (fun t ht => (hSi t ht).1) hS) hal ⟨hG.rise, hG.above, fun j a hj => ?_⟩ hacc
      obtain ⟨f1, f2, f3, f4⟩ := far a (hG.above a (List.mem_of_getElem? hj))
      exact kp a _ f1 f3 (hG.cols j a hj)
  | succ k ih =>
    intro i h tk c acc as hk hi hz keep hS hacc hal hG hls
    obtain ⟨hTI, ⟨vs, hTO, vl⟩, hat, st⟩ := hz
    have hlt : i < n := by omega
    have hil : ∀ t ∈ ws, i < t.2.2.size := fun t ht => by rw [hn t ht]; exact hlt
    have hsz : acc.size = i := by rw [← Array.length_toList, hacc, List.length_map, hal]
    have hSl : S < h.objs.size := Heap.lt_size hS
    refine codeAny_builtin F.entry_extend_loop ?_
    rw [Around.under_plainId F.plain_extend_loop _]
    show wpAny _ A.in1 (pyNext (.ref z) >>= _) _ _ _
    apply wpAny_bind
    have more : ∀ (h' : Heap) (f : Bool) (T : Addr), T ∈ as ++ [h.objs.size] → IsZs h' z TI TO (rawInt T) f → (∃ vs, IsT h' TO vs ∧ vs.length = ws.length) → ItsAt h' (i + 1) ws → IsT h' h.objs.size (colV ws i) → h'.objs.size = h.objs.size + 1 →
        (∀ c o, c ≠ z → c ≠ TO → (∀ t ∈ ws, c ≠ t.1) → h.get? c = some o → h'.get? c = some o) →
        wpAny (model P w) A.in1 (updateSeq S (·.push (Value.ref h.objs.size)) >>= fun _ => again (.builtin "list.extend.loop" ⟨[.ref S, .ref z, res], []⟩)) (fun fin s' => match fin with | .done f => R (.ok f) s' | .again c' => c'.quiet = true ∧ codeAny (model P w) A c' R s') (fun e s' => R (.error e) s') { s with heap := h', toks := tk } := by
      intro h' f T hT hz' hTO' hat' hp hsz' kp
      have hS' := kp S _ hSz hSO (fun t ht => (hSi t ht).1) hS
      have up : ∀ b o, b ≠ S → h'.get? b = some o → (h'.update S (Obj.mapSeq (·.push (Value.ref h.objs.size)))).get? b = some o := fun b o hb e => (Heap.get?_update_other _ _ (Ne.symm hb)).trans e
      apply wpAny_bind
      refine wpAny_updateSeq hS' rfl (wpAny_pure ⟨plainId_quiet F.plain_extend_loop _, ?_⟩) (by rw [hsz]; omega) (by show (acc.push (Value.ref h.objs.size)).size ≤ sizeLine + 1; rw [Array.size_push, hsz]; omega)
      refine ih (i + 1) _ tk _ (acc.push (Value.ref h.objs.size)) (as ++ [h.objs.size]) (by omega) hlt ?_ (fun b o n1 n2 n3 n4 e => up b o n1 (kp b o n2 n3 n4 (keep b o n1 n2 n3 n4 e))) (Heap.get?_update_self _ hS' rfl) (by rw [Array.toList_push, hacc, List.map_append]; rfl) (by rw [List.length_append, hal]; rfl) ⟨?_, ?_, ?_⟩ ?_
      · obtain ⟨vs', hTO', vl'⟩ := hTO'
        exact ⟨up _ _ hSI.symm (kp _ _ D.TIz D.TITO (fun t ht => ((D.it t ht).2.1).symm) hTI), ⟨vs', up _ _ hSO.symm hTO', vl'⟩, fun t ht => ⟨(hat' t ht).1.elim fun o e => ⟨o, up _ _ (hSi t ht).1.symm e.1, e.2⟩, (hat' t ht).2.elim fun o e => ⟨o, up _ _ (hSi t ht).2.symm e.1, e.2⟩⟩, .inr ⟨T, f, hT, up _ _ hSz.symm hz'⟩⟩
      · refine List.pairwise_append.mpr ⟨hG.rise, List.pairwise_singleton _ _, fun u hu v hv => ?_⟩
        rw [List.mem_singleton.mp hv]
        obtain ⟨j, hj⟩ := List.mem_iff_getElem?.mp hu
        exact Heap.lt_size (hG.cols j u hj)
      · intro u hu
        rcases List.mem_append.mp hu with hu | hu
        · exact hG.above u hu
        · rw [List.mem_singleton.mp hu]
          exact hls
      · intro j u hj
        by_cases hjl : j < as.length
        · rw [List.getElem?_append_left hjl] at hj
          obtain ⟨f1, f2, f3, f4⟩ := far u (hG.above u (List.mem_of_getElem? hj))
          exact up u _ f4 (kp u _ f1 f2 f3 (hG.cols j u hj))
        · rw [List.getElem?_append_right (by omega)] at hj
          have hj2 := (List.getElem?_eq_some_iff.mp hj).1
          have ej : j = as.length := by
            simp only [List.length_cons, List.length_nil] at hj2
            omega
          subst ej
          rw [Nat.sub_self] at hj
          obtain rfl := Option.some.inj hj
          subst hal
          exact up _ _ (Nat.ne_of_gt hSl) hp
      · have e := up _ _ (Nat.ne_of_gt hSl) hp
        exact Nat.lt_trans hls (Heap.lt_size e)
    rcases st with ⟨rfl, hz0⟩ | ⟨T, f, hT, hz1⟩
    · refine zs_pyNext (z := z) (TI := TI) (TO := TO) (i := 0) (s := { s with heap := h, toks := tk }) (A := A.in1) ⟨_, hz0, rfl⟩ (zs_next_first (s := { s with heap := h, toks := tk }) D ne wl hz0 hTI hTO vl hat hil (Q := fun v s' => ∃ h', v = .ref h.objs.size ∧ s' = { s with heap := h', toks := tk } ∧ IsZs h' z TI TO (rawInt h.objs.size) false ∧ ItsAt h' (0 + 1) ws ∧ IsT h' h.objs.size (colV ws 0) ∧ h'.objs.size = h.objs.size + 1 ∧ (∃ vs, IsT h' TO vs ∧ vs.length = ws.length) ∧ (∀ c o, c ≠ z → c ≠ TO → (∀ t ∈ ws, c ≠ t.1) → h.get? c = some o → h'.get? c = some o)) ?_) ?_
      · intro h' b1 b2 b3 b4 b5 b6
        exact ⟨h', rfl, rfl, b1, b3, b4, b5, ⟨_, b2, by unfold colV; rw [List.length_map]⟩, b6⟩
      · rintro v s' ⟨h', rfl, rfl, b1, b2, b3, b4, b5, b6⟩
        exact more h' false h.objs.size (List.mem_append_right _ List.mem_cons_self) b1 b5 b2 b3 b4 b6
    · obtain ⟨j, hj⟩ := List.mem_iff_getElem?.mp hT
      refine zs_pyNext (z := z) (TI := TI) (TO := TO) (i := i) (s := { s with heap := h, toks := tk }) (A := A.in1) ⟨_, hz1, rfl⟩ (zs_next_out (s := { s with heap := h, toks := tk }) D ne wl hz1 (hG.cols j T hj) hTI hat hil (Q := fun v s' => ∃ h', v = .ref h.objs.size ∧ s' = { s with heap := h', toks := tk } ∧ IsZs h' z TI TO (rawInt T) true ∧ ItsAt h' (i + 1) ws ∧ IsT h' h.objs.size (colV ws i) ∧ h'.objs.size = h.objs.size + 1 ∧ (∀ c o, c ≠ z → (∀ t ∈ ws, c ≠ t.1) → h.get? c = some o → h'.get? c = some o)) ?_) ?_
      · intro h' b1 b2 b3 b4 b5
        exact ⟨h', rfl, rfl, b1, b2, b3, b4, b5⟩
      · rintro v s' ⟨h', rfl, rfl, b1, b2, b3, b4, b5⟩
        exact more h' true T (List.mem_append_left _ hT) b1 ⟨vs, b5 _ _ D.TOz (fun t ht => ((D.it t ht).2.2.1).symm) hTO, vl⟩ b2 b3 b4 fun c o c1 c2 c3 e => b5 c o c1 c3 e
theorem zs_nolen : typeLookup (.type "zip") "__len__" = pure none := by
  rw [typeLookup_type, builtinLookup_eq_fast]
  kernel_rfl
theorem zs_nohint : typeLookup (.type "zip") "__length_hint__" = pure none := by
  rw [typeLookup_type, builtinLookup_eq_fast]
  kernel_rfl
theorem zs_hint {z : Addr} {Q : Bool → Shared → Prop} (hT : s.TypeIs (.ref z) "zip") (q : Q true s) : wpAny (model P w) A (Builtin.List.listLengthHint (.ref z)) Q E s := by
  unfold Builtin.List.listLengthHint
  apply wpAny_bind
  refine wpAny_specialOf hT zs_nolen ?_
  refine wpAny_ite_split (fun h => absurd h (by decide)) (fun _ => ?_)
  refine wpAny_ite_split (fun h => absurd h (by decide)) (fun _ => ?_)
  apply wpAny_bind
  refine wpAny_specialOf hT zs_nohint ?_
  exact wpAny_pure q
theorem zs_extend {S z TI TO : Addr} {ws : List WsT} {n : Nat} (hh : A.handled = none) (D : ZsApart z TI TO ws) (ne : ws ≠ []) (wl : ws.length ≤ 1000000) (hn : ∀ t ∈ ws, t.2.2.size = n) (n1 : 1 ≤ n) (hSz : S ≠ z) (hSI : S ≠ TI) (hSO : S ≠ TO) (hSi : ∀ t ∈ ws, S ≠ t.1 ∧ S ≠ t.2.1)
    (lo : Addr) (hlo : z ≤ lo ∧ TI ≤ lo ∧ TO ≤ lo ∧ (∀ t ∈ ws, t.1 ≤ lo) ∧ S ≤ lo) (hls : lo < s.heap.objs.size) (hn6 : n ≤ 1000000) (res : Value) {R : Result → Shared → Prop} {c₀ : Nat}
    (hz : ZsAt s.heap z TI TO ws 0 []) (hz0 : IsZs s.heap z TI TO .none false) (hS : s.heap.get? S = some { cls := .type "list", data := .seq #[] c₀ })
    (hR : ∀ h' tk acc c as, (∀ b o, b ≠ S → b ≠ z → b ≠ TO → (∀ t ∈ ws, b ≠ t.1) → s.heap.get? b = some o → h'.get? b = some o) → h'.get? S = some { cls := .type "list", dict := none, data := .seq acc c, slots := #[] } → as.length = n → MadeZs ws lo h' as →
      acc.toList = as.map Value.ref → R (.ok (.ret res)) { s with heap := h', toks := tk }) :
    wpAny (model P w) A.in1 (Builtin.List.listExtendWith (.ref S) (.ref z) res)
      (fun fin s' => match fin with | .done f => R (.ok f) s' | .again c' => c'.quiet = true ∧ codeAny (model P w) A c' R s') (fun e s' => R (.error e) s') s := by
  have ty : s.TypeIs (.ref z) "zip" := ⟨_, hz0, rfl⟩
  have go : ∀ (h : Heap) (c₁ tk : Nat), (∀ b o, b ≠ S → s.heap.get? b = some o → h.get? b = some o) → lo < h.objs.size → h.get? S = some { cls := .type "list", data := .seq #[] c₁ } →
      codeAny (model P w) A (.builtin "list.extend.loop" ⟨[.ref S, .ref z, res], []⟩) R { s with heap := h, toks := tk } := by
    intro h c₁ tk kp hl hS₁
    obtain ⟨hTI, ⟨vs, hTO, vl⟩, hat, _⟩ := hz
    refine zs_loop (s := s) (h₁ := s.heap) hh D ne wl hn n1 hSz hSI hSO hSi lo hlo hn6 res hR n 0 h tk c₁ #[] [] (Nat.sub_zero _) (Nat.zero_le _) ?_ (fun b o n1 _ _ _ e => kp b o n1 e) hS₁ rfl rfl ⟨List.Pairwise.nil, (fun _ z => nomatch z), (fun j a hj => by simp at hj)⟩ hl
    exact ⟨kp _ _ hSI.symm hTI, ⟨vs, kp _ _ hSO.symm hTO, vl⟩, fun t ht => ⟨(hat t ht).1.elim fun o e => ⟨o, kp _ _ (hSi t ht).1.symm e.1, e.2⟩, (hat t ht).2.elim fun o e => ⟨o, kp _ _ (hSi t ht).2.symm e.1, e.2⟩⟩, .inl ⟨rfl, kp _ _ hSz.symm hz0⟩⟩
  unfold Builtin.List.listExtendWith
  apply wpAny_bind
  refine wpAny_typeOf (T := "zip") ty ?_
  have e1 : Builtin.List.listSameRef (.ref S) (.ref z) = false := by simp [Builtin.List.listSameRef, hSz]
  have e2 : (Value.type "zip" == Value.type "list") = false := by decide
  have e3 : (Value.type "zip" == Value.type "tuple") = false := by decide
  simp only [e1, e2, e3, Bool.or_false, Bool.false_eq_true, if_false]
  apply wpAny_bind
  refine wpAny_pyIter_slot ty F.slot_zip_iter ?_
  refine wpAny_call_entry F.slot_zip_iter ty F.entry_zip_iter ?_ (F.args_zip_iter_1 _)
  show wpAny _ _ (ret (.ref z)) _ _ s
  refine wpAny_pure ⟨_, rfl, "zip", _, ty, F.slot_zip_next.lookup, ?_⟩
  apply wpAny_bind
  apply wpAny_holding
  refine zs_hint ty ?_
  refine wpAny_ite_split (fun _ => ?_) (fun _ => wpAny_pure ⟨plainId_quiet F.plain_extend_loop _, go _ c₀ _ (fun b o _ e => e) hls hS⟩)
  apply wpAny_bind
  apply wpAny_rule
  apply wpAny_bind
  show wpAny _ _ (updateSeq S (·.push .none) >>= fun _ => updateSeq S (·.pop)) _ _ _
  apply wpAny_bind
  refine wpAny_updateSeq hS rfl ?_
  have hS₂ := Heap.get?_update_self (Obj.mapSeq (·.push Value.none)) hS rfl
  refine wpAny_updateSeq (hz := by seq_fits) hS₂ rfl ?_
  have hS₃ := Heap.get?_update_self (Obj.mapSeq (·.pop)) hS₂ rfl
  refine wpAny_pure ⟨plainId_quiet F.plain_extend_loop _, go _ _ _ (fun b o hb e => ?_) ?_ hS₃⟩
  · exact (Heap.get?_update_other _ _ (Ne.symm hb)).trans ((Heap.get?_update_other _ _ (Ne.symm hb)).trans e)
  · rw [Heap.size_update, Heap.size_update]
    exact hls
theorem zs_list {z TI TO : Addr} {ws : List WsT} {n : Nat} (hh : A.handled = none) (D : ZsApart z TI TO ws) (ne : ws ≠ []) (wl : ws.length ≤ 1000000) (hn : ∀ t ∈ ws, t.2.2.size = n) (n1 : 1 ≤ n) (hn6 : n ≤ 1000000) {Q : Value → Shared → Prop}
    (hz : ZsAt s.heap z TI TO ws 0 []) (hz0 : IsZs s.heap z TI TO .none false)
    (q : ∀ h' tk acc c as, (∀ b o, b ≠ z → b ≠ TO → (∀ t ∈ ws, b ≠ t.1) → s.heap.get? b = some o → h'.get? b = some o) → h'.get? s.heap.objs.size = some { cls := .type "list", dict := none, data := .seq acc c, slots := #[] } → as.length = n → MadeZs ws s.heap.objs.size h' as →
      acc.toList = as.map Value.ref → Q (.ref s.heap.objs.size) { s with heap := h', toks := tk }) :
    wpAny (model P w) A (call (.type "list") [.ref z]) Q E s := by
  refine callType_codes (Q₁ := fun obj s₁ => obj = .ref s.heap.objs.size ∧ s₁ = { s with heap := s.heap.push { cls := .type "list", data := .seq #[] } }) F.called_list (F.typeCall_list_1 _) F.entry_list_init (code_list_new _ ⟨rfl, rfl⟩) ?_
  rintro obj s₁ ⟨rfl, rfl⟩
  have hS : (s.heap.push { cls := .type "list", data := .seq #[] }).get? s.heap.objs.size = some { cls := .type "list", data := .seq #[] } := Heap.get?_push_size _ rfl
  obtain ⟨hTI, ⟨vs, hTO, vl⟩, hat, _⟩ := id hz
  have lt : ∀ {c : Addr} {o : Obj}, s.heap.get? c = some o → c < s.heap.objs.size := fun e => Heap.lt_size e
  have zt : ∀ t ∈ ws, t.1 < s.heap.objs.size ∧ t.2.1 < s.heap.objs.size := fun t ht => ⟨(hat t ht).1.elim fun o e => lt e.1, (hat t ht).2.elim fun o e => lt e.1⟩
  refine ⟨⟨_, hS, rfl⟩, F.args_list_init_2 _ _, ?_⟩
  show wpAny _ _ (do let old ← Builtin.List.listItems (.ref s.heap.objs.size); Builtin.List.listUpdate (.ref s.heap.objs.size) (fun _ => #[]); letGo old.toList.reverse; Builtin.List.listExtendWith (.ref s.heap.objs.size) (.ref z) .none) _ _ _
  apply wpAny_bind
  unfold Builtin.List.listItems
  apply wpAny_bind
  refine wpAny_seqItems hS rfl (wpAny_pure ?_)
  show wpAny _ _ (updateSeq s.heap.objs.size (fun _ => #[]) >>= fun _ => letGo (#[] : Array Value).toList.reverse >>= fun _ => Builtin.List.listExtendWith (.ref s.heap.objs.size) (.ref z) .none) _ _ _
  apply wpAny_bind
  refine wpAny_updateSeq hS rfl ?_
  have hS₂ := Heap.get?_update_self (Obj.mapSeq (fun _ => (#[] : Array Value))) hS rfl
  have kp : ∀ b o, s.heap.get? b = some o → ((s.heap.push { cls := .type "list", data := .seq #[] }).update s.heap.objs.size (Obj.mapSeq (fun _ => (#[] : Array Value)))).get? b = some o := fun b o e => (Heap.get?_update_other _ _ (Nat.ne_of_gt (Heap.lt_size e))).trans (Heap.get?_push_of_some _ e)
  apply wpAny_bind
  apply wpAny_letGo
  refine zs_extend (A := A.in1) (S := s.heap.objs.size) hh D ne wl hn n1 (Nat.ne_of_gt (lt hz0)) (Nat.ne_of_gt (lt hTI)) (Nat.ne_of_gt (lt hTO)) (fun t ht => ⟨Nat.ne_of_gt (zt t ht).1, Nat.ne_of_gt (zt t ht).2⟩) s.heap.objs.size ⟨Nat.le_of_lt (lt hz0), Nat.le_of_lt (lt hTI), Nat.le_of_lt (lt hTO), fun t ht => Nat.le_of_lt (zt t ht).1, Nat.le_refl _⟩ ?_ hn6 .none ?_ (kp _ _ hz0) hS₂ ?_
  · show s.heap.objs.size < ((s.heap.push { cls := .type "list", data := .seq #[] }).update s.heap.objs.size (Obj.mapSeq (fun _ => (#[] : Array Value)))).objs.size
    rw [Heap.size_update, Heap.size_push]
    exact Nat.lt_succ_self _
  · exact ⟨kp _ _ hTI, ⟨vs, kp _ _ hTO, vl⟩, fun t ht => ⟨(hat t ht).1.elim fun o e => ⟨o, kp _ _ e.1, e.2⟩, (hat t ht).2.elim fun o e => ⟨o, kp _ _ e.1, e.2⟩⟩, .inl ⟨rfl, kp _ _ hz0⟩⟩
  · intro h' tk acc c as k1 k2 k3 k4 k5
    exact ⟨rfl, q h' tk acc c as (fun b o n1 n2 n3 e => k1 b o (Nat.ne_of_lt (Heap.lt_size e)) n1 n2 n3 (kp b o e)) k2 k3 k4 k5⟩
end zs
theorem zs_paired {α β : Type} {F : α → β → Prop} : ∀ {l : List α} {k : List β}, l.length = k.length → (∀ (j : Nat) x y, l[j]? = some x → k[j]? = some y → F x y) → Paired F l k
  | [], [], _, _ => .nil
  | [], _ :: _, h, _ => nomatch h
  | _ :: _, [], h, _ => nomatch h
  | x :: l, y :: k, h, f => .cons (f 0 x y rfl rfl) (zs_paired (Nat.succ.inj h) fun j a b ha hb => f (j + 1) a b (by simpa using ha) (by simpa using hb))
theorem awLen' {α β : Type} {F : α → β → Prop} : ∀ {l : List α} {k : List β}, Paired F l k → l.length = k.length
  | _, _, .nil => rfl
  | _, _, .cons _ t => congrArg Nat.succ (awLen' t)
theorem awGet' {α β : Type} {F : α → β → Prop} : ∀ {l : List α} {k : List β}, Paired F l k → ∀ {i : Nat} {x : α}, l[i]? = some x → ∃ y, k[i]? = some y ∧ F x y
  | _, _, .cons h t, 0, _, e => by obtain rfl := Option.some.inj e; exact ⟨_, rfl, h⟩
  | _, _, .cons h t, i + 1, _, e => awGet' t (by simpa using e)
theorem awGet2' {α β : Type} {F : α → β → Prop} : ∀ {l : List α} {k : List β}, Paired F l k → ∀ {i : Nat} {y : β}, k[i]? = some y → ∃ x, l[i]? = some x ∧ F x y
  | _, _, .cons h t, 0, _, e => by obtain rfl := Option.some.inj e; exact ⟨_, rfl, h⟩
  | _, _, .cons h t, i + 1, _, e => awGet2' t (by simpa using e)
section zsr
variable {X : Cx}
/-- the column of so many rows -/
def colR (rs : List (List V)) (j : Nat) : List V := rs.map fun r => r.getD j .non
def tListZipS (K : PySem.W.Frag) (te : TE) : TE := fun σ H Q => te σ H fun x H1 => ∃ (a : Addr) (ls : List Addr) (rs : List (List V)) (n : Nat), x = .ref a ∧ SqL K H1 a (ls.map V.ref) ∧ Paired (fun l r => H1 l = some (.tup r) ∧ r.length = n) ls rs ∧ ls ≠ [] ∧ ls.length ≤ 1000000 ∧ 1 ≤ n ∧ n ≤ 1000000 ∧
  ∀ (H' : Hp) (p : Addr) (ts : List Addr), Same H1 H' → H1 p = none → H' p = some (.lst (ts.map V.ref)) → ts.length = n → (∀ (j : Nat) t, ts[j]? = some t → H' t = some (.tup (colR rs j))) → Q (.ref p) H'
theorem zs_wsOf {pins : List (Addr × Obj)} {σ : L2.St} {H : Hp} {s : Shared} (I : Inv X pins σ H s) {n : Nat} : ∀ {ls : List Addr} {rs : List (List V)}, Paired (fun l r => H l = some (.tup r) ∧ r.length = n) ls rs → ∃ vs : List (List Value), Paired (fun l v => s.heap.IsTuple l v.toArray ∧ v.length = n) ls vs ∧ Paired (fun r v => Vals r v) rs vs
  | _, _, .nil => ⟨[], .nil, .nil⟩
  | _, _, .cons h t => by
    obtain ⟨vs, h1, h2⟩ := zs_wsOf I t
    obtain ⟨its, rv, ht, _⟩ := I.tuple (SqT.of h.1)
    have hl := rv.length
    exact ⟨its :: vs, .cons ⟨ht, by omega⟩ h1, .cons rv h2⟩
theorem zs_col {i : Nat} : ∀ {rs : List (List V)} {vs : List (List Value)}, Paired (fun r v => Vals r v) rs vs → (∀ r ∈ rs, i < r.length) → Vals (colR rs i) (vs.map fun v => v.getD i .none)
  | _, _, .nil, _ => .nil
  | _, _, .cons (a := r) (b := v) h t, hi => by
    refine .cons ?_ (zs_col t fun r hr => hi r (List.mem_cons_of_mem _ hr))
    have lt := hi r List.mem_cons_self
    obtain ⟨y, hy, ry⟩ := h.get (List.getElem?_eq_getElem lt)
    show RelV (r.getD i .non) (v.getD i .none)
    rw [List.getD_eq_getElem?_getD, List.getD_eq_getElem?_getD, List.getElem?_eq_getElem lt, hy]
    exact ry
theorem vals_refs_eq : ∀ {ls : List Addr} {us : List Value}, Vals (ls.map V.ref) us → us = ls.map Value.ref
  | [], _, .nil => rfl
  | l :: ls, _, .cons h t => by
    obtain rfl := vals_refs_eq t
    exact congrArg (· :: ls.map Value.ref) h
def wsOf (b : Nat) (ls : List Addr) (vs : List (List Value)) : List WsT := (List.range ls.length).map fun j => (b + j, ls.getD j 0, (vs.getD j []).toArray)
theorem wsOf_refs (b : Nat) (ls : List Addr) (vs : List (List Value)) : (wsOf b ls vs).map (fun t => Value.ref t.1) = (List.range ls.length).map fun j => Value.ref (b + j) := by
  unfold wsOf
  rw [List.map_map]
  rfl
theorem wsOf_mem {b : Nat} {ls : List Addr} {vs : List (List Value)} {t : WsT} (hl : ls.length = vs.length) (h : t ∈ wsOf b ls vs) : ∃ (j : Nat) (l : Addr) (v : List Value), ls[j]? = some l ∧ vs[j]? = some v ∧ t = (b + j, l, v.toArray) := by
  obtain ⟨j, hj, rfl⟩ := List.mem_map.mp h
  have jl := List.mem_range.mp hj
  have jv : j < vs.length := Nat.lt_of_lt_of_eq jl hl
  refine ⟨j, ls[j], vs[j]'jv, List.getElem?_eq_getElem jl, List.getElem?_eq_getElem jv, ?_⟩
  rw [List.getD_eq_getElem?_getD, List.getD_eq_getElem?_getD, List.getElem?_eq_getElem jl, List.getElem?_eq_getElem jv]
  rfl
theorem wsOf_nd (b : Nat) (ls : List Addr) (vs : List (List Value)) : ((wsOf b ls vs).map (·.1)).Nodup := by
  unfold wsOf List.Nodup
  rw [List.map_map, List.pairwise_map]
  exact List.pairwise_lt_range.imp fun {x y} h => by
    show ¬ b + x = b + y
    omega
theorem wsOf_col {b : Nat} {ls : List Addr} {vs : List (List Value)} (hl : ls.length = vs.length) (i : Nat) : colV (wsOf b ls vs) i = vs.map fun v => v.getD i .none := by
  unfold colV wsOf
  rw [List.map_map, hl]
  apply List.ext_getElem?
  intro j
  rw [List.getElem?_map, List.getElem?_map]
  by_cases hj : j < vs.length
  · rw [List.getElem?_range hj, List.getElem?_eq_getElem hj]
    show some ((vs.getD j []).toArray.getD i .none) = some (vs[j].getD i .none)
    rw [List.getD_eq_getElem?_getD, List.getElem?_eq_getElem hj]
    simp [Array.getD_eq_getD_getElem?, List.getD_eq_getElem?_getD]
  · have h1 : (List.range vs.length)[j]? = none := List.getElem?_eq_none (by rw [List.length_range]; omega)
    have h2 : vs[j]? = none := List.getElem?_eq_none (by omega)
    rw [h1, h2]
    rfl
theorem pe_listZipS {e : Expr} {te : TE} {p p2 p3 pos pos2 : Pos} (hc : X.calm = true) (hg : Gl X "list") (hm : X.mg "list" = none) (hg2 : Gl X "zip") (hm2 : X.mg "zip" = none) (he : PE X e te)
    (c1 : starEach [.Call (.Name "zip" p2) [.Starred e p3] [] pos2] X.env = (false, eval (.Call (.Name "zip" p2) [.Starred e p3] [] pos2) X.env) :: starEach [] X.env := by rfl)
    (c2 : starEach [.Starred e p3] X.env = [(true, eval e X.env)] := by rfl) :
    PE X (.Call (.Name "list" p) [.Call (.Name "zip" p2) [.Starred e p3] [] pos2] [] pos) (tListZipS X.K te) := by
  constructor
  intro pins s σ H Q I h
  refine wpAny_Call_Name_kw (ld_blt I hg hm (by decide +kernel : bootBuiltins "list" = some (.type "list")) ?_)
  refine PyProof.Rows.callWith_type1 ?_ c1 rfl
  rw [c1]
  show wpAny _ _ (spliced ((false, eval (.Call (.Name "zip" p2) [.Starred e p3] [] pos2) X.env) :: backTo pos (starEach [] X.env))) _ _ s
  refine Calls.spliced_cons ?_
  refine Call_ (ld_blt I hg2 hm2 PyProof.Rows.boot_zip ?_)
  rw [c2]
  refine PySem.W.ks_call (P := fun _ => True) rfl (fun h _ => ⟨.machine, .inr (.inl rfl), fun A Q E s k q => wpAny_pure q⟩) (PySem.W.ks_lone (thn (he.run pins s σ H _ I h) fun v s1 ⟨y, H1, I1, ry, a, ls, rs, n, ey, hls, hrows, ne, l6, n1, n6, q⟩ => ?_))
  subst ey
  obtain rfl : v = Value.ref a := ry
  refine StX.star_any I1 (.inr hls) fun us s2 I2 rv => ⟨trivial, ?_⟩
  obtain rfl := vals_refs_eq rv
  obtain ⟨vs, hv1, hv2⟩ := zs_wsOf I2 hrows
  have lv := awLen' hv1
  have lr := awLen' hv2
  obtain ⟨l0, ls0, e0⟩ : ∃ l0 ls0, ls = l0 :: ls0 := by
    cases ls with
    | nil => exact absurd rfl ne
    | cons l ls => exact ⟨l, ls, rfl⟩
  have tupAt : ∀ (j : Nat) l v, ls[j]? = some l → vs[j]? = some v → s2.heap.IsTuple l v.toArray ∧ v.length = n := fun j l v hj hv => by
    obtain ⟨v', hv', h⟩ := awGet' hv1 hj
    rw [hv] at hv'
    obtain rfl := Option.some.inj hv'
    exact h
  have tall : ∀ l ∈ ls, ∃ r, s2.heap.IsTuple l r := fun l hl => by
    obtain ⟨j, hj⟩ := List.mem_iff_getElem?.mp hl
    obtain ⟨v, hv, h⟩ := awGet' hv1 hj
    exact ⟨_, h.1⟩
  have tlt : ∀ l ∈ ls, @LT.lt Nat _ l s2.heap.objs.size := fun l hl => by
    obtain ⟨r, o, ho, _⟩ := tall l hl
    exact Heap.lt_size ho
  have goal : wpAny (model X.prog X.w) X.A (call (.type "zip") (ls.map Value.ref)) (fun v s' => wpAny (model X.prog X.w) X.A (spliced (backTo pos (starEach [] X.env))) (fun vs' s'' => wpAny (model X.prog X.w) X.A (call (.type "list") (v :: vs')) (EP X pins σ Q) X.xe s'') X.xe s') X.xe s2 := by
    rw [e0] at l6 tall ⊢
    refine zs_call (s := s2) l0 ls0 l6 tall ?_
    rw [← e0] at l6 tall ⊢
    refine Calls.spliced_nil ?_
    have e1 : (itsH s2.heap ls).objs.size = s2.heap.objs.size + ls.length := itsH_size _ _
    have z1 : ((itsH s2.heap ls).push { cls := .type "tuple", data := .seq ((List.range ls.length).map fun j => Value.ref (s2.heap.objs.size + j)).toArray }).objs.size = s2.heap.objs.size + ls.length + 1 := by rw [Heap.size_push, e1]
    have z2 : (((itsH s2.heap ls).push { cls := .type "tuple", data := .seq ((List.range ls.length).map fun j => Value.ref (s2.heap.objs.size + j)).toArray }).push { cls := .type "tuple", data := .seq (((List.range ls.length).map fun j => Value.ref (s2.heap.objs.size + j)).map fun _ => Value.none).toArray }).objs.size = s2.heap.objs.size + ls.length + 2 := by rw [Heap.size_push, z1]
    have hsz : (zsH s2.heap ls).objs.size = s2.heap.objs.size + ls.length + 3 := by
      unfold zsH
      rw [Heap.size_push, z2]
    have gI : ∀ (j : Nat) l, ls[j]? = some l → (zsH s2.heap ls).get? (s2.heap.objs.size + j) = some { cls := .type "tuple_iterator", data := .fields #[.ref l, .int 0 0] } := fun j l hj => Heap.get?_push_of_some _ (Heap.get?_push_of_some _ (Heap.get?_push_of_some _ (itsH_at ls _ j l hj)))
    have gO : ∀ c o, s2.heap.get? c = some o → (zsH s2.heap ls).get? c = some o := fun c o e => Heap.get?_push_of_some _ (Heap.get?_push_of_some _ (Heap.get?_push_of_some _ (itsH_old ls _ c o e)))
    have gTI : IsT (zsH s2.heap ls) (s2.heap.objs.size + ls.length) ((List.range ls.length).map fun j => Value.ref (s2.heap.objs.size + j)) := by
      have := Heap.get?_push_size (h := itsH s2.heap ls) (o := { cls := .type "tuple", data := .seq ((List.range ls.length).map fun j => Value.ref (s2.heap.objs.size + j)).toArray }) rfl
      rw [e1] at this
      exact Heap.get?_push_of_some _ (Heap.get?_push_of_some _ this)
    have gTO : IsT (zsH s2.heap ls) (s2.heap.objs.size + ls.length + 1) (((List.range ls.length).map fun j => Value.ref (s2.heap.objs.size + j)).map fun _ => Value.none) := by
      have := Heap.get?_push_size (h := (itsH s2.heap ls).push { cls := .type "tuple", data := .seq ((List.range ls.length).map fun j => Value.ref (s2.heap.objs.size + j)).toArray }) (o := { cls := .type "tuple", data := .seq (((List.range ls.length).map fun j => Value.ref (s2.heap.objs.size + j)).map fun _ => Value.none).toArray }) rfl
      rw [z1] at this
      exact Heap.get?_push_of_some _ this
    have gZ : IsZs (zsH s2.heap ls) (s2.heap.objs.size + ls.length + 2) (s2.heap.objs.size + ls.length) (s2.heap.objs.size + ls.length + 1) .none false := by
      have := Heap.get?_push_size (h := ((itsH s2.heap ls).push { cls := .type "tuple", data := .seq ((List.range ls.length).map fun j => Value.ref (s2.heap.objs.size + j)).toArray }).push { cls := .type "tuple", data := .seq (((List.range ls.length).map fun j => Value.ref (s2.heap.objs.size + j)).map fun _ => Value.none).toArray }) (o := { cls := .type "zip", dict := none, data := .fields #[.none, .bool false, .bool false, .ref (s2.heap.objs.size + ls.length), .ref (s2.heap.objs.size + ls.length + 1)], slots := #[] }) rfl
      rw [z2] at this
      exact this
    obtain ⟨ws, hws⟩ : ∃ ws, ws = wsOf s2.heap.objs.size ls vs := ⟨_, rfl⟩
    have wmem : ∀ t ∈ ws, ∃ (j : Nat) (l : Addr) (v : List Value), ls[j]? = some l ∧ vs[j]? = some v ∧ t = (s2.heap.objs.size + j, l, v.toArray) := fun t ht => wsOf_mem lv (by rw [← hws]; exact ht)
    have jlt : ∀ {j : Nat} {l : Addr}, ls[j]? = some l → j < ls.length := fun h => (List.getElem?_eq_some_iff.mp h).1
    have D : ZsApart (s2.heap.objs.size + ls.length + 2) (s2.heap.objs.size + ls.length) (s2.heap.objs.size + ls.length + 1) ws := by
      refine ⟨?_, ?_, ?_, fun t ht => ?_, by rw [hws]; exact wsOf_nd _ _ _, fun t ht u hu => ?_⟩
      · exact Nat.ne_of_lt (by omega)
      · exact Nat.ne_of_lt (by omega)
      · exact Nat.ne_of_lt (by omega)
      · obtain ⟨j, l, v, h1, h2, rfl⟩ := wmem t ht
        have a := jlt h1
        have b := tlt l (List.mem_of_getElem? h1)
        exact ⟨Nat.ne_of_lt (by show s2.heap.objs.size + j < _; omega), Nat.ne_of_lt (by show s2.heap.objs.size + j < _; omega), Nat.ne_of_lt (by show s2.heap.objs.size + j < _; omega), Nat.ne_of_lt (Nat.lt_of_lt_of_le b (by omega)), Nat.ne_of_lt (Nat.lt_of_lt_of_le b (by omega))⟩
      · obtain ⟨j, l, v, h1, h2, rfl⟩ := wmem t ht
        obtain ⟨j', l', v', h1', h2', rfl⟩ := wmem u hu
        have b := tlt l (List.mem_of_getElem? h1)
        exact Nat.ne_of_lt (Nat.lt_of_lt_of_le b (Nat.le_add_right _ _))
    have wlen : ws.length = ls.length := by
      rw [hws]
      unfold wsOf
      rw [List.length_map, List.length_range]
    have wne : ws ≠ [] := fun z => by
      rw [z, e0] at wlen
      cases wlen
    refine zs_list (s := { s2 with heap := zsH s2.heap ls }) (I2.ok.hd hc) D wne (by omega) (n := n) (fun t ht => ?_) n1 n6 ⟨by rw [hws, wsOf_refs]; exact gTI, ⟨_, gTO, by rw [List.length_map, List.length_map, List.length_range, wlen]⟩, fun t ht => ?_, .inl ⟨rfl, gZ⟩⟩ gZ fun h'' tk acc c as kp hS hal hG hacc => ?_
    · obtain ⟨j, l, v, h1, h2, rfl⟩ := wmem t ht
      show v.toArray.size = n
      rw [List.size_toArray]
      exact (tupAt j l v h1 h2).2
    · obtain ⟨j, l, v, h1, h2, rfl⟩ := wmem t ht
      exact ⟨⟨_, gI j l h1, rfl, rfl⟩, (tupAt j l v h1 h2).1.elim fun o e => ⟨o, gO _ _ e.1, e.2⟩⟩
    · have old : ∀ b o, s2.heap.get? b = some o → h''.get? b = some o := fun b o e => by
        have lt := Heap.lt_size e
        refine kp b o (Nat.ne_of_lt (Nat.lt_of_lt_of_le lt (by omega))) (Nat.ne_of_lt (Nat.lt_of_lt_of_le lt (by omega))) (fun t ht => ?_) (gO b o e)
        obtain ⟨j, l, v, h1, h2, rfl⟩ := wmem t ht
        exact Nat.ne_of_lt (Nat.lt_of_lt_of_le lt (Nat.le_add_right _ _))
      have hS5 : s2.heap.objs.size ≤ (zsH s2.heap ls).objs.size := by
        rw [hsz]
        omega
      have J0 : Inv X pins σ H1 { s2 with heap := h'', toks := tk } := I2.kept (t' := tk) old
      have nS : H1 (zsH s2.heap ls).objs.size = none := I2.hok.fresh hS5
      have ok1 : ObjOk X.prog X.w (upd H1 (zsH s2.heap ls).objs.size (.lst (as.map V.ref))) h'' (zsH s2.heap ls).objs.size (.lst (as.map V.ref)) := by
        refine ⟨by rw [List.length_map, hal, sizeLine_eq]; omega, acc.toList, c, ?_, ?_⟩
        · rw [hacc]
          exact vals_refs as
        · rw [Array.toArray_toList]
          exact hS
      have J1 : Inv X pins σ (upd H1 (zsH s2.heap ls).objs.size (.lst (as.map V.ref))) { s2 with heap := h'', toks := tk } := J0.take (h' := h'') (t' := tk) (fun b ob _ e => e) (I2.fpOk hS5 nS) ok1
      have nd : as.Nodup := hG.rise.imp fun {a b} (h : a < b) => Nat.ne_of_lt h
      obtain ⟨H2, J2, sm2, tp⟩ := L2.DX.takeT (P := fun t xs => ∃ j : Nat, as[j]? = some t ∧ xs = colR rs j) I2 as _ J1 nd fun t ht => by
        obtain ⟨j, hj⟩ := List.mem_iff_getElem?.mp ht
        have jn : j < n := by
          have := (List.getElem?_eq_some_iff.mp hj).1
          omega
        have e3 := hG.cols j t hj
        have ab := hG.above t ht
        refine ⟨Nat.le_trans hS5 (Nat.le_of_lt ab), ?_, colR rs j, ⟨j, hj, rfl⟩, fun H3 => ⟨by unfold colR; rw [List.length_map, sizeLine_eq]; omega, _, zs_col hv2 (fun r hr => ?_), ?_⟩⟩
        · rw [upd_ne (Nat.ne_of_gt ab)]
          exact I2.hok.fresh (Nat.le_trans hS5 (Nat.le_of_lt ab))
        · obtain ⟨i, hi⟩ := List.mem_iff_getElem?.mp hr
          obtain ⟨l, _, hl⟩ := awGet2' hrows hi
          rw [hl.2]
          exact jn
        · rw [hws, wsOf_col lv] at e3
          exact ⟨_, e3, rfl, _, rfl⟩
      refine ⟨.ref (zsH s2.heap ls).objs.size, H2, J2, rfl, q H2 (zsH s2.heap ls).objs.size as (fun b o e => sm2 b o (by rw [upd_ne (ne_of_none e nS)]; exact e)) nS (sm2 _ _ upd_same) hal fun j t hj => ?_⟩
      obtain ⟨xs, ⟨j', h1, rfl⟩, h3⟩ := tp t (List.mem_of_getElem? hj)
      have : j = j' := by
        have i1 := (List.getElem?_eq_some_iff.mp hj).1
        exact (List.getElem?_inj i1 nd).mp (hj.trans h1.symm)
      subst this
      exact h3
  exact goal
end zsr
/-! ### lists of deeds that are made -/
def Pur (t : TE) (σ : L2.St) (v : V) : Prop := ∀ H Q, Q v H → t σ H Q
theorem pure_v {i : Nat} {σ : L2.St} {v : V} (h : σ[i]? = some (some v)) : Pur (tVar i) σ v := fun H Q q => ⟨v, h, q⟩
theorem pure_c {v : V} {σ : L2.St} : Pur (tC v) σ v := fun H Q q => q
theorem pure_add {ta tb : TE} {σ : L2.St} {i j : Int} (a : Pur ta σ (.int i)) (b : Pur tb σ (.int j)) : Pur (tOp (rI0 fun i j => .int (i + j)) ta tb) σ (.int (i + j)) := fun H Q q => a H _ (b H _ ⟨i, j, rfl, rfl, q⟩)
def MkD (t : TE) (σ : L2.St) (d : Deed) : Prop := ∀ H Q, (∀ p, H p = none → Q (.ref p) (upd H p (.tup (dV d)))) → t σ H Q
theorem mkd0 {x : Str} {σ : L2.St} : MkD (tTup (tCons (tC (.str x)) tNil)) σ (x, []) := fun H Q q => ⟨by show 1 ≤ sizeLine; decide, q⟩
theorem mkd1 {x : Str} {σ : L2.St} {ta : TE} {i : Int} (a : Pur ta σ (.int i)) : MkD (tTup (tCons (tC (.str x)) (tCons ta tNil))) σ (x, [i]) := fun H Q q => a H _ ⟨by show 2 ≤ sizeLine; decide, q⟩
theorem mkd2 {x : Str} {σ : L2.St} {ta tb : TE} {i j : Int} (a : Pur ta σ (.int i)) (b : Pur tb σ (.int j)) : MkD (tTup (tCons (tC (.str x)) (tCons ta (tCons tb tNil)))) σ (x, [i, j]) := fun H Q q => a H _ (b H _ ⟨by show 3 ≤ sizeLine; decide, q⟩)
def MkDs (t : TA) (σ : L2.St) (ds : List Deed) : Prop := ∀ H Q, (∀ H' (rs : List Addr), Same H H' → DsAt H' rs ds → Q (rs.map V.ref) H') → t σ H Q
theorem mkds_nil {σ : L2.St} : MkDs tNil σ [] := fun H Q q => q H [] (Same.refl H) .nil
theorem mkds_cons {σ : L2.St} {t : TE} {ts : TA} {d : Deed} {ds : List Deed} (h : MkD t σ d) (k : MkDs ts σ ds) : MkDs (tCons t ts) σ (d :: ds) := fun H Q q => h H _ fun p hp => k _ _ fun H' rs s hd => q H' (p :: rs) ((same_new hp).trans s) (.cons (s _ _ upd_same) hd)
/-- a list of deeds at an address -/
def LdA (H : Hp) (l : Addr) (es : List Deed) : Prop := ∃ rs, H l = some (.lst (rs.map V.ref)) ∧ DsAt H rs es
theorem LdA.same {H H' : Hp} {l : Addr} {es : List Deed} (h : LdA H l es) (s : Same H H') : LdA H' l es := by
  obtain ⟨rs, h1, h2⟩ := h
  exact ⟨rs, s _ _ h1, (Same.tups s).ds h2⟩
def MkO (t : TE) (σ : L2.St) (ds : List Deed) : Prop := ∀ H Q, (∀ H' l, Same H H' → LdA H' l ds → Q (.ref l) H') → t σ H Q
theorem mko {σ : L2.St} {ts : TA} {ds : List Deed} (h : MkDs ts σ ds) (hl : ds.length ≤ 100) : MkO (tLst ts) σ ds := fun H Q q => h H _ fun H' rs s hd => by
  have := awLen hd
  refine ⟨by rw [List.length_map, sizeLine_eq]; omega, fun p hp => ?_⟩
  have sp := same_new (o := .lst (rs.map V.ref)) hp
  exact q _ p (s.trans sp) ⟨rs, upd_same, (Same.tups sp).ds hd⟩
abbrev LdsA (H : Hp) : List Addr → List (List Deed) → Prop := Paired (LdA H)
theorem ldsa_same {H H' : Hp} (s : Same H H') {ls : List Addr} {os : List (List Deed)} (h : LdsA H ls os) : LdsA H' ls os := awMap (fun _ _ z => z.same s) h
def MkOs (t : TA) (σ : L2.St) (os : List (List Deed)) : Prop := ∀ H Q, (∀ H' (ls : List Addr), Same H H' → LdsA H' ls os → Q (ls.map V.ref) H') → t σ H Q
theorem mkos_nil {σ : L2.St} : MkOs tNil σ [] := fun H Q q => q H [] (Same.refl H) .nil
theorem mkos_cons {σ : L2.St} {t : TE} {ts : TA} {d : List Deed} {ds : List (List Deed)} (h : MkO t σ d) (k : MkOs ts σ ds) : MkOs (tCons t ts) σ (d :: ds) := fun H Q q => h H _ fun H1 l s1 hd1 => k _ _ fun H' rs s hd => q H' (l :: rs) (s1.trans s) (.cons (hd1.same s) hd)
def MkG (t : TE) (σ : L2.St) (os : List (List Deed)) : Prop := ∀ H Q, (∀ H' a (ls : List Addr), Same H H' → H a = none → H' a = some (.lst (ls.map V.ref)) → LdsA H' ls os → Q (.ref a) H') → t σ H Q
theorem mkg {σ : L2.St} {ts : TA} {os : List (List Deed)} (h : MkOs ts σ os) (hl : os.length ≤ 100) : MkG (tLst ts) σ os := fun H Q q => h H _ fun H' ls s hd => by
  have := awLen hd
  refine ⟨by rw [List.length_map, sizeLine_eq]; omega, fun p hp => ?_⟩
  have sp := same_new (o := .lst (ls.map V.ref)) hp
  exact q _ p ls (s.trans sp) (s.free hp) upd_same (ldsa_same sp hd)
/-! ### a dict of such lists -/
abbrev OTab := List (Str × List (List Deed))
def OTe (H : Hp) (kv : Key × V) (e : Str × List (List Deed)) : Prop := kv.1 = Sum.inr e.1 ∧ ∃ a ls, kv.2 = .ref a ∧ H a = some (.lst (ls.map V.ref)) ∧ LdsA H ls e.2
def OD (H : Hp) (S : Addr) (tab : OTab) : Prop := ∃ kvs, H S = some (.dK kvs) ∧ Paired (OTe H) kvs tab
theorem OTe.but {H H' : Hp} {S : Addr} {kvs : List (Key × V)} {kv : Key × V} {e : Str × List (List Deed)} (h : OTe H kv e) (eS : H S = some (.dK kvs)) (s : But S H H') : OTe H' kv e := by
  obtain ⟨h1, a, ls, h2, h3, h4⟩ := h
  have ts : TupsStay H H' := fun b xs e => s b _ (ne_of e eS (fun z => nomatch z)) e
  exact ⟨h1, a, ls, h2, s _ _ (ne_of h3 eS (fun z => nomatch z)) h3, awMap (fun l es z => by
    obtain ⟨rs, z1, z2⟩ := z
    exact ⟨rs, s _ _ (ne_of z1 eS (fun z => nomatch z)) z1, ts.ds z2⟩) h4⟩
theorem OD.same {H H' : Hp} {S : Addr} {tab : OTab} (h : OD H S tab) (s : Same H H') : OD H' S tab := by
  obtain ⟨kvs, h1, h2⟩ := h
  exact ⟨kvs, s _ _ h1, awMap (fun _ _ z => z.but h1 (But.same s)) h2⟩
theorem ot_none {H : Hp} {x : Str} : ∀ {kvs : List (Key × V)} {tab : OTab}, Paired (OTe H) kvs tab → (∀ e ∈ tab, e.1 ≠ x) → valV kvs (Sum.inr x) = none
  | _, _, .nil, _ => rfl
  | _, _, .cons (a := kv) (b := e) h t, hx => by
    have ne : ¬ kv.1 = Sum.inr x := fun z => hx e List.mem_cons_self (Sum.inr.inj (h.1.symm.trans z))
    rw [valV_neg ne]
    exact ot_none t fun e he => hx e (List.mem_cons_of_mem _ he)
theorem ot_some {H : Hp} {x : Str} : ∀ {kvs : List (Key × V)} {tab : OTab}, Paired (OTe H) kvs tab → (∃ e ∈ tab, e.1 = x) → ∃ os a ls, (x, os) ∈ tab ∧ valV kvs (Sum.inr x) = some (.ref a) ∧ H a = some (.lst (ls.map V.ref)) ∧ LdsA H ls os
  | _, _, .nil, hx => by
    obtain ⟨e, he, _⟩ := hx
    cases he
  | _, _, .cons (a := kv) (b := e) h t, hx => by
    by_cases z : e.1 = x
    · obtain ⟨h1, a, ls, h2, h3, h4⟩ := h
      refine ⟨e.2, a, ls, ?_, ?_, h3, h4⟩
      · rw [← z]
        exact List.mem_cons_self
      · rw [valV_pos (by rw [h1, z]), h2]
    · have ne : ¬ kv.1 = Sum.inr x := fun y => z (Sum.inr.inj (h.1.symm.trans y))
      obtain ⟨e', he, hx'⟩ := hx
      rcases List.mem_cons.mp he with rfl | he
      · exact absurd hx' z
      · obtain ⟨os, a, ls, g1, g2, g3⟩ := ot_some t ⟨e', he, hx'⟩
        exact ⟨os, a, ls, List.mem_cons_of_mem _ g1, by rw [valV_neg ne]; exact g2, g3⟩
theorem od_put {H H' : Hp} {S a : Addr} {ls : List Addr} {x : Str} {os : List (List Deed)} {tab : OTab} (h : OD H S tab) (s : Same H H') (hx : ∀ e ∈ tab, e.1 ≠ x) (ea : H' a = some (.lst (ls.map V.ref))) (hl : LdsA H' ls os) (few : tab.length ≤ 20) :
    ∃ H4, DPut H' S (.str x) (.ref a) H4 ∧ OD H4 S (tab ++ [(x, os)]) ∧ But S H' H4 := by
  obtain ⟨kvs, eS, hk⟩ := h.same s
  have l := awLen hk
  refine ⟨upd H' S (.dK (putK kvs (Sum.inr x) (.ref a))), .inl ⟨kvs, Sum.inr x, eS, rfl, by rw [sizeLine_eq]; omega, rfl⟩, ⟨_, upd_same, ?_⟩, But.put⟩
  rw [putK_new _ (ot_none hk hx)]
  exact awSnoc (F := OTe _) (x := (Sum.inr x, .ref a)) (y := (x, os)) (OTe.but ⟨rfl, a, ls, rfl, ea, hl⟩ eS But.put) (awMap (fun _ _ z => z.but eS But.put) hk)
/-! ### deeds that tell what a deed tells -/
def rwA (t : Int) : OTab := [("none", [[("all", []), ("not", [t])], [("one", []), ("sub", [t, t])]]), ("one", [[("all", []), ("neg", [t])], [("none", []), ("not", [t]), ("neg", [t + 1])]]), ("all", [[("one", []), ("neg", [t])], [("none", []), ("not", [t])]])]
def rwB (t a : Int) : OTab := [("not", [[("all", []), ("xor", [t, a])], [("neg", [a]), ("one", []), ("sub", [t, t + 1])]]), ("neg", [[("not", [a]), ("one", []), ("add", [t, t + 1])], [("none", []), ("sub", [t, a])]]), ("twice", [[("add", [a, a])], [("neg", [a]), ("sub", [a, t])]])]
def rwC (t a b : Int) : OTab := [("add", [[("neg", [b]), ("sub", [a, t])], [("xor", [a, b]), ("and", [a, b]), ("twice", [t + 1]), ("add", [t, t + 2])]]), ("sub", [[("neg", [b]), ("add", [a, t])], [("not", [a]), ("add", [t, b]), ("not", [t + 1])]]), ("and", [[("or", [a, b]), ("add", [a, b]), ("sub", [t + 1, t])], [("not", [a]), ("not", [b]), ("or", [t, t + 1]), ("not", [t + 2])]]), ("or", [[("xor", [a, b]), ("and", [a, b]), ("add", [t, t + 1])], [("and", [a, b]), ("sub", [a, t]), ("add", [t + 1, b])]]), ("xor", [[("or", [a, b]), ("and", [a, b]), ("sub", [t, t + 1])], [("and", [a, b]), ("twice", [t]), ("add", [a, b]), ("sub", [t + 2, t + 1])]])]
def rwT (d : Deed) (t : Int) : OTab := rwA t ++ rwB t (d.2.getD 0 0) ++ rwC t (d.2.getD 0 0) (d.2.getD 1 0)
theorem dOk1' {m : Int} {x : Str} {l : List Int} (h : (x, (l.length : Int)) ∈ fwL) (k : ∀ i ∈ l, 0 ≤ i ∧ i < m) : DeedOk m (x, l) := ⟨h, k⟩
theorem mem1' {m a : Int} (h : 0 ≤ a ∧ a < m) : ∀ i ∈ [a], 0 ≤ i ∧ i < m := fun i hi => by rw [List.mem_singleton.mp hi]; exact h
theorem mem2' {m a b : Int} (h : 0 ≤ a ∧ a < m) (k : 0 ≤ b ∧ b < m) : ∀ i ∈ [a, b], 0 ≤ i ∧ i < m := fun i hi => by
  simp only [List.mem_cons, List.not_mem_nil, or_false] at hi
  rcases hi with rfl | rfl
  · exact h
  · exact k
theorem dsOk_nil' (m : Int) : DsOk m [] := ⟨fun k d e => by simp at e⟩
theorem dsOk_cons' {m : Int} {d : Deed} {ds : List Deed} (h : DeedOk m d) (k : DsOk (m + 1) ds) : DsOk m (d :: ds) := by
  constructor
  intro j e hj
  match j with
  | 0 =>
    obtain rfl := Option.some.inj hj
    have : m + ((0 : Nat) : Int) = m := by omega
    rw [this]
    exact h
  | j + 1 =>
    have := k.each j e hj
    have e2 : m + ((j + 1 : Nat) : Int) = m + 1 + (j : Int) := by omega
    rw [e2]
    exact this
/-- what one deed is told by -/
structure Rwd (d : Deed) (t : Int) (es : List Deed) : Prop where
  tab : ∃ os, (d.1, os) ∈ rwT d t ∧ es ∈ os
  ok : DsOk t es
  l1 : 1 ≤ es.length
  l4 : es.length ≤ 4
theorem rwA_ok {t : Int} (h : 0 ≤ t) : ∀ e ∈ rwA t, ∀ es ∈ e.2, DsOk t es ∧ 1 ≤ es.length ∧ es.length ≤ 4 := by
  intro e he es hs
  unfold rwA at he
  simp only [List.mem_cons, List.not_mem_nil, or_false] at he
  rcases he with rfl | rfl | rfl
  · simp only [List.mem_cons, List.not_mem_nil, or_false] at hs
    rcases hs with rfl | rfl
    · exact ⟨dsOk_cons' (dOk1' (by show (_, ((0 : Nat) : Int)) ∈ fwL; decide +kernel) (fun _ z => nomatch z)) (dsOk_cons' (dOk1' (by show (_, ((1 : Nat) : Int)) ∈ fwL; decide +kernel) (mem1' ⟨by omega, by omega⟩)) (dsOk_nil' _)), (by show 1 ≤ 2; decide), (by show 2 ≤ 4; decide)⟩
    · exact ⟨dsOk_cons' (dOk1' (by show (_, ((0 : Nat) : Int)) ∈ fwL; decide +kernel) (fun _ z => nomatch z)) (dsOk_cons' (dOk1' (by show (_, ((2 : Nat) : Int)) ∈ fwL; decide +kernel) (mem2' ⟨by omega, by omega⟩ ⟨by omega, by omega⟩)) (dsOk_nil' _)), (by show 1 ≤ 2; decide), (by show 2 ≤ 4; decide)⟩
  · simp only [List.mem_cons, List.not_mem_nil, or_false] at hs
    rcases hs with rfl | rfl
    · exact ⟨dsOk_cons' (dOk1' (by show (_, ((0 : Nat) : Int)) ∈ fwL; decide +kernel) (fun _ z => nomatch z)) (dsOk_cons' (dOk1' (by show (_, ((1 : Nat) : Int)) ∈ fwL; decide +kernel) (mem1' ⟨by omega, by omega⟩)) (dsOk_nil' _)), (by show 1 ≤ 2; decide), (by show 2 ≤ 4; decide)⟩
    · exact ⟨dsOk_cons' (dOk1' (by show (_, ((0 : Nat) : Int)) ∈ fwL; decide +kernel) (fun _ z => nomatch z)) (dsOk_cons' (dOk1' (by show (_, ((1 : Nat) : Int)) ∈ fwL; decide +kernel) (mem1' ⟨by omega, by omega⟩)) (dsOk_cons' (dOk1' (by show (_, ((1 : Nat) : Int)) ∈ fwL; decide +kernel) (mem1' ⟨by omega, by omega⟩)) (dsOk_nil' _))), (by show 1 ≤ 3; decide), (by show 3 ≤ 4; decide)⟩
  · simp only [List.mem_cons, List.not_mem_nil, or_false] at hs
    rcases hs with rfl | rfl
    · exact ⟨dsOk_cons' (dOk1' (by show (_, ((0 : Nat) : Int)) ∈ fwL; decide +kernel) (fun _ z => nomatch z)) (dsOk_cons' (dOk1' (by show (_, ((1 : Nat) : Int)) ∈ fwL; decide +kernel) (mem1' ⟨by omega, by omega⟩)) (dsOk_nil' _)), (by show 1 ≤ 2; decide), (by show 2 ≤ 4; decide)⟩
    · exact ⟨dsOk_cons' (dOk1' (by show (_, ((0 : Nat) : Int)) ∈ fwL; decide +kernel) (fun _ z => nomatch z)) (dsOk_cons' (dOk1' (by show (_, ((1 : Nat) : Int)) ∈ fwL; decide +kernel) (mem1' ⟨by omega, by omega⟩)) (dsOk_nil' _)), (by show 1 ≤ 2; decide), (by show 2 ≤ 4; decide)⟩
theorem rwB_ok {t a : Int} (h : 0 ≤ t) (ha : 0 ≤ a ∧ a < t) : ∀ e ∈ rwB t a, ∀ es ∈ e.2, DsOk t es ∧ 1 ≤ es.length ∧ es.length ≤ 4 := by
  intro e he es hs
  unfold rwB at he
  simp only [List.mem_cons, List.not_mem_nil, or_false] at he
  rcases he with rfl | rfl | rfl
  · simp only [List.mem_cons, List.not_mem_nil, or_false] at hs
    rcases hs with rfl | rfl
    · exact ⟨dsOk_cons' (dOk1' (by show (_, ((0 : Nat) : Int)) ∈ fwL; decide +kernel) (fun _ z => nomatch z)) (dsOk_cons' (dOk1' (by show (_, ((2 : Nat) : Int)) ∈ fwL; decide +kernel) (mem2' ⟨by omega, by omega⟩ ⟨by omega, by omega⟩)) (dsOk_nil' _)), (by show 1 ≤ 2; decide), (by show 2 ≤ 4; decide)⟩
    · exact ⟨dsOk_cons' (dOk1' (by show (_, ((1 : Nat) : Int)) ∈ fwL; decide +kernel) (mem1' ⟨by omega, by omega⟩)) (dsOk_cons' (dOk1' (by show (_, ((0 : Nat) : Int)) ∈ fwL; decide +kernel) (fun _ z => nomatch z)) (dsOk_cons' (dOk1' (by show (_, ((2 : Nat) : Int)) ∈ fwL; decide +kernel) (mem2' ⟨by omega, by omega⟩ ⟨by omega, by omega⟩)) (dsOk_nil' _))), (by show 1 ≤ 3; decide), (by show 3 ≤ 4; decide)⟩
  · simp only [List.mem_cons, List.not_mem_nil, or_false] at hs
    rcases hs with rfl | rfl
    · exact ⟨dsOk_cons' (dOk1' (by show (_, ((1 : Nat) : Int)) ∈ fwL; decide +kernel) (mem1' ⟨by omega, by omega⟩)) (dsOk_cons' (dOk1' (by show (_, ((0 : Nat) : Int)) ∈ fwL; decide +kernel) (fun _ z => nomatch z)) (dsOk_cons' (dOk1' (by show (_, ((2 : Nat) : Int)) ∈ fwL; decide +kernel) (mem2' ⟨by omega, by omega⟩ ⟨by omega, by omega⟩)) (dsOk_nil' _))), (by show 1 ≤ 3; decide), (by show 3 ≤ 4; decide)⟩
    · exact ⟨dsOk_cons' (dOk1' (by show (_, ((0 : Nat) : Int)) ∈ fwL; decide +kernel) (fun _ z => nomatch z)) (dsOk_cons' (dOk1' (by show (_, ((2 : Nat) : Int)) ∈ fwL; decide +kernel) (mem2' ⟨by omega, by omega⟩ ⟨by omega, by omega⟩)) (dsOk_nil' _)), (by show 1 ≤ 2; decide), (by show 2 ≤ 4; decide)⟩
  · simp only [List.mem_cons, List.not_mem_nil, or_false] at hs
    rcases hs with rfl | rfl
    · exact ⟨dsOk_cons' (dOk1' (by show (_, ((2 : Nat) : Int)) ∈ fwL; decide +kernel) (mem2' ⟨by omega, by omega⟩ ⟨by omega, by omega⟩)) (dsOk_nil' _), (by show 1 ≤ 1; decide), (by show 1 ≤ 4; decide)⟩
    · exact ⟨dsOk_cons' (dOk1' (by show (_, ((1 : Nat) : Int)) ∈ fwL; decide +kernel) (mem1' ⟨by omega, by omega⟩)) (dsOk_cons' (dOk1' (by show (_, ((2 : Nat) : Int)) ∈ fwL; decide +kernel) (mem2' ⟨by omega, by omega⟩ ⟨by omega, by omega⟩)) (dsOk_nil' _)), (by show 1 ≤ 2; decide), (by show 2 ≤ 4; decide)⟩
theorem rwC_ok {t a b : Int} (h : 0 ≤ t) (ha : 0 ≤ a ∧ a < t) (hb : 0 ≤ b ∧ b < t) : ∀ e ∈ rwC t a b, ∀ es ∈ e.2, DsOk t es ∧ 1 ≤ es.length ∧ es.length ≤ 4 := by
  intro e he es hs
  unfold rwC at he
  simp only [List.mem_cons, List.not_mem_nil, or_false] at he
  rcases he with rfl | rfl | rfl | rfl | rfl
  · simp only [List.mem_cons, List.not_mem_nil, or_false] at hs
    rcases hs with rfl | rfl
    · exact ⟨dsOk_cons' (dOk1' (by show (_, ((1 : Nat) : Int)) ∈ fwL; decide +kernel) (mem1' ⟨by omega, by omega⟩)) (dsOk_cons' (dOk1' (by show (_, ((2 : Nat) : Int)) ∈ fwL; decide +kernel) (mem2' ⟨by omega, by omega⟩ ⟨by omega, by omega⟩)) (dsOk_nil' _)), (by show 1 ≤ 2; decide), (by show 2 ≤ 4; decide)⟩
    · exact ⟨dsOk_cons' (dOk1' (by show (_, ((2 : Nat) : Int)) ∈ fwL; decide +kernel) (mem2' ⟨by omega, by omega⟩ ⟨by omega, by omega⟩)) (dsOk_cons' (dOk1' (by show (_, ((2 : Nat) : Int)) ∈ fwL; decide +kernel) (mem2' ⟨by omega, by omega⟩ ⟨by omega, by omega⟩)) (dsOk_cons' (dOk1' (by show (_, ((1 : Nat) : Int)) ∈ fwL; decide +kernel) (mem1' ⟨by omega, by omega⟩)) (dsOk_cons' (dOk1' (by show (_, ((2 : Nat) : Int)) ∈ fwL; decide +kernel) (mem2' ⟨by omega, by omega⟩ ⟨by omega, by omega⟩)) (dsOk_nil' _)))), (by show 1 ≤ 4; decide), (by show 4 ≤ 4; decide)⟩
  · simp only [List.mem_cons, List.not_mem_nil, or_false] at hs
    rcases hs with rfl | rfl
    · exact ⟨dsOk_cons' (dOk1' (by show (_, ((1 : Nat) : Int)) ∈ fwL; decide +kernel) (mem1' ⟨by omega, by omega⟩)) (dsOk_cons' (dOk1' (by show (_, ((2 : Nat) : Int)) ∈ fwL; decide +kernel) (mem2' ⟨by omega, by omega⟩ ⟨by omega, by omega⟩)) (dsOk_nil' _)), (by show 1 ≤ 2; decide), (by show 2 ≤ 4; decide)⟩
    · exact ⟨dsOk_cons' (dOk1' (by show (_, ((1 : Nat) : Int)) ∈ fwL; decide +kernel) (mem1' ⟨by omega, by omega⟩)) (dsOk_cons' (dOk1' (by show (_, ((2 : Nat) : Int)) ∈ fwL; decide +kernel) (mem2' ⟨by omega, by omega⟩ ⟨by omega, by omega⟩)) (dsOk_cons' (dOk1' (by show (_, ((1 : Nat) : Int)) ∈ fwL; decide +kernel) (mem1' ⟨by omega, by omega⟩)) (dsOk_nil' _))), (by show 1 ≤ 3; decide), (by show 3 ≤ 4; decide)⟩
  · simp only [List.mem_cons, List.not_mem_nil, or_false] at hs
    rcases hs with rfl | rfl
    · exact ⟨dsOk_cons' (dOk1' (by show (_, ((2 : Nat) : Int)) ∈ fwL; decide +kernel) (mem2' ⟨by omega, by omega⟩ ⟨by omega, by omega⟩)) (dsOk_cons' (dOk1' (by show (_, ((2 : Nat) : Int)) ∈ fwL; decide +kernel) (mem2' ⟨by omega, by omega⟩ ⟨by omega, by omega⟩)) (dsOk_cons' (dOk1' (by show (_, ((2 : Nat) : Int)) ∈ fwL; decide +kernel) (mem2' ⟨by omega, by omega⟩ ⟨by omega, by omega⟩)) (dsOk_nil' _))), (by show 1 ≤ 3; decide), (by show 3 ≤ 4; decide)⟩
    · exact ⟨dsOk_cons' (dOk1' (by show (_, ((1 : Nat) : Int)) ∈ fwL; decide +kernel) (mem1' ⟨by omega, by omega⟩)) (dsOk_cons' (dOk1' (by show (_, ((1 : Nat) : Int)) ∈ fwL; decide +kernel) (mem1' ⟨by omega, by omega⟩)) (dsOk_cons' (dOk1' (by show (_, ((2 : Nat) : Int)) ∈ fwL; decide +kernel) (mem2' ⟨by omega, by omega⟩ ⟨by omega, by omega⟩)) (dsOk_cons' (dOk1' (by show (_, ((1 : Nat) : Int)) ∈ fwL; decide +kernel) (mem1' ⟨by omega, by omega⟩)) (dsOk_nil' _)))), (by show 1 ≤ 4; decide), (by show 4 ≤ 4; decide)⟩
  · simp only [List.mem_cons, List.not_mem_nil, or_false] at hs
    rcases hs with rfl | rfl
    · exact ⟨dsOk_cons' (dOk1' (by show (_, ((2 : Nat) : Int)) ∈ fwL; decide +kernel) (mem2' ⟨by omega, by omega⟩ ⟨by omega, by omega⟩)) (dsOk_cons' (dOk1' (by show (_, ((2 : Nat) : Int)) ∈ fwL; decide +kernel) (mem2' ⟨by omega, by omega⟩ ⟨by omega, by omega⟩)) (dsOk_cons' (dOk1' (by show (_, ((2 : Nat) : Int)) ∈ fwL; decide +kernel) (mem2' ⟨by omega, by omega⟩ ⟨by omega, by omega⟩)) (dsOk_nil' _))), (by show 1 ≤ 3; decide), (by show 3 ≤ 4; decide)⟩
    · exact ⟨dsOk_cons' (dOk1' (by show (_, ((2 : Nat) : Int)) ∈ fwL; decide +kernel) (mem2' ⟨by omega, by omega⟩ ⟨by omega, by omega⟩)) (dsOk_cons' (dOk1' (by show (_, ((2 : Nat) : Int)) ∈ fwL; decide +kernel) (mem2' ⟨by omega, by omega⟩ ⟨by omega, by omega⟩)) (dsOk_cons' (dOk1' (by show (_, ((2 : Nat) : Int)) ∈ fwL; decide +kernel) (mem2' ⟨by omega, by omega⟩ ⟨by omega, by omega⟩)) (dsOk_nil' _))), (by show 1 ≤ 3; decide), (by show 3 ≤ 4; decide)⟩
  · simp only [List.mem_cons, List.not_mem_nil, or_false] at hs
    rcases hs with rfl | rfl
    · exact ⟨dsOk_cons' (dOk1' (by show (_, ((2 : Nat) : Int)) ∈ fwL; decide +kernel) (mem2' ⟨by omega, by omega⟩ ⟨by omega, by omega⟩)) (dsOk_cons' (dOk1' (by show (_, ((2 : Nat) : Int)) ∈ fwL; decide +kernel) (mem2' ⟨by omega, by omega⟩ ⟨by omega, by omega⟩)) (dsOk_cons' (dOk1' (by show (_, ((2 : Nat) : Int)) ∈ fwL; decide +kernel) (mem2' ⟨by omega, by omega⟩ ⟨by omega, by omega⟩)) (dsOk_nil' _))), (by show 1 ≤ 3; decide), (by show 3 ≤ 4; decide)⟩
    · exact ⟨dsOk_cons' (dOk1' (by show (_, ((2 : Nat) : Int)) ∈ fwL; decide +kernel) (mem2' ⟨by omega, by omega⟩ ⟨by omega, by omega⟩)) (dsOk_cons' (dOk1' (by show (_, ((1 : Nat) : Int)) ∈ fwL; decide +kernel) (mem1' ⟨by omega, by omega⟩)) (dsOk_cons' (dOk1' (by show (_, ((2 : Nat) : Int)) ∈ fwL; decide +kernel) (mem2' ⟨by omega, by omega⟩ ⟨by omega, by omega⟩)) (dsOk_cons' (dOk1' (by show (_, ((2 : Nat) : Int)) ∈ fwL; decide +kernel) (mem2' ⟨by omega, by omega⟩ ⟨by omega, by omega⟩)) (dsOk_nil' _)))), (by show 1 ≤ 4; decide), (by show 4 ≤ 4; decide)⟩
theorem rwA_two {t : Int} : ∀ e ∈ rwA t, e.2.length = 2 := by
  unfold rwA
  simp only [List.mem_cons, List.not_mem_nil, or_false]
  rintro e (rfl | rfl | rfl) <;> rfl
theorem rwB_two {t a : Int} : ∀ e ∈ rwB t a, e.2.length = 2 := by
  unfold rwB
  simp only [List.mem_cons, List.not_mem_nil, or_false]
  rintro e (rfl | rfl | rfl) <;> rfl
theorem rwC_two {t a b : Int} : ∀ e ∈ rwC t a b, e.2.length = 2 := by
  unfold rwC
  simp only [List.mem_cons, List.not_mem_nil, or_false]
  rintro e (rfl | rfl | rfl | rfl | rfl) <;> rfl
theorem deed_a {t : Int} {d : Deed} (ok : DeedOk t d) (n1 : ¬ d.1 = "none") (n2 : ¬ d.1 = "one") (n3 : ¬ d.1 = "all") : ∃ i, d.2[0]? = some i ∧ 0 ≤ i ∧ i < t := by
  obtain ⟨x, l⟩ := d
  have hw := ok.word
  have ha := ok.ahead
  match l, hw, ha with
  | [], hw, _ =>
    exfalso
    unfold fwL at hw
    simp only [List.mem_cons, List.not_mem_nil, or_false, Prod.mk.injEq, List.length_nil] at hw
    rcases hw with ⟨h, _⟩ | ⟨h, _⟩ | ⟨h, _⟩ | ⟨_, h⟩ | ⟨_, h⟩ | ⟨_, h⟩ | ⟨_, h⟩ | ⟨_, h⟩ | ⟨_, h⟩ | ⟨_, h⟩ | ⟨_, h⟩
    · exact n1 h
    · exact n2 h
    · exact n3 h
    all_goals exact absurd h (by decide)
  | i :: l, _, ha => exact ⟨i, rfl, ha i List.mem_cons_self⟩
theorem deed_c {t i j : Int} {m : Int} {d : Deed} (ok : DeedOk m d) (n1 : ¬ d.1 = "none") (n2 : ¬ d.1 = "one") (n3 : ¬ d.1 = "all") (n4 : ¬ d.1 = "not") (n5 : ¬ d.1 = "neg") (n6 : ¬ d.1 = "twice") : ∃ e ∈ rwC t i j, e.1 = d.1 := by
  have hw := ok.word
  unfold fwL at hw
  simp only [List.mem_cons, List.not_mem_nil, or_false, Prod.mk.injEq] at hw
  unfold rwC
  rcases hw with ⟨h, _⟩ | ⟨h, _⟩ | ⟨h, _⟩ | ⟨h, _⟩ | ⟨h, _⟩ | ⟨h, _⟩ | ⟨h, _⟩ | ⟨h, _⟩ | ⟨h, _⟩ | ⟨h, _⟩ | ⟨h, _⟩
  · exact absurd h n1
  · exact absurd h n2
  · exact absurd h n3
  · exact absurd h n4
  · exact absurd h n5
  · exact absurd h n6
  all_goals rw [h]; simp
theorem deed_b {t : Int} {d : Deed} (ok : DeedOk t d) (n1 : ¬ d.1 = "none") (n2 : ¬ d.1 = "one") (n3 : ¬ d.1 = "all") (n4 : ¬ d.1 = "not") (n5 : ¬ d.1 = "neg") (n6 : ¬ d.1 = "twice") : ∃ j, d.2[1]? = some j ∧ 0 ≤ j ∧ j < t := by
  have hw := ok.word
  have ha := ok.ahead
  have l2 : d.2.length = 2 := by
    unfold fwL at hw
    simp only [List.mem_cons, List.not_mem_nil, or_false, Prod.mk.injEq] at hw
    rcases hw with ⟨h, _⟩ | ⟨h, _⟩ | ⟨h, _⟩ | ⟨h, _⟩ | ⟨h, _⟩ | ⟨h, _⟩ | ⟨_, h⟩ | ⟨_, h⟩ | ⟨_, h⟩ | ⟨_, h⟩ | ⟨_, h⟩
    · exact absurd h n1
    · exact absurd h n2
    · exact absurd h n3
    · exact absurd h n4
    · exact absurd h n5
    · exact absurd h n6
    all_goals omega
  have h1 : 1 < d.2.length := by omega
  exact ⟨d.2[1], List.getElem?_eq_getElem h1, ha _ (List.getElem_mem h1)⟩
def spRw : Sp := fun vs H Q _ => ∃ (a r : Addr) (d : Deed) (t : Int), vs = [.ref a, .ref r, .int t] ∧ TP H a ∧ H r = some (.tup (dV d)) ∧ DeedOk t d ∧ 0 ≤ t ∧
  ∀ H' l rs es, TP H' a → But a H H' → H' l = some (.lst (rs.map V.ref)) → DsAt H' rs es → Rwd d t es → Q (.ref l) H'
set_option maxHeartbeats 2000000 in
theorem ok_rw {f fD : Addr} {fd fdD : FuncData} {k : Nat} (F : Fun K "_law_rewritten" "_law_rewritten" s_law_rewritten f fd) (GD : FnOk P w K mg base CX0 (k + 1) fD fdD ["tape", "many"] spDigit) (kD : PySem.W.keepIn K (.ref fD) = true) (bD : Binds K fdD ["tape", "many"] []) (gD : mg "_law_digit" = some (.ref fD)) :
    FnOk P w K mg base CX0 (k + 2) f fd ["tape", "deed", "at"] spRw := by
  refine F.ok sc_law_rewritten (fun vs H Q E h => ?_) (fun cdv A outer s H vs Q E hr h => ?_)
  · obtain ⟨a, r, d, t, rfl, _⟩ := h
    rfl
  · obtain ⟨a, r, d, t, rfl, ht, er, ok, t0, q⟩ := h
    have hu := hu_of hr
    refine ⟨_, pss_cons (ps_par (i := 3) (j := 4) rfl sc_law_rewritten.nd rfl rfl (by decide) rfl rfl (pa_cons (pe_ix ix_tup (pv 1) pe_int (fun _ _ => rfl)) (pa_cons (pe_call GD hr (by rfl) gD kD bD .nil pass0 (pa_cons (pv 0) (pa_cons pe_int pa_nil))) pa_nil)) (by rfl))
      (pss_mid (ps_set (i := 5) sc_law_rewritten.nd rfl (.inl rfl) (pe_disp (pps_cons pe_str (pe_lst (pa_cons (pe_lst (pa_cons (pe_tup (pa_cons pe_str pa_nil)) (pa_cons (pe_tup (pa_cons pe_str (pa_cons (pv 2) pa_nil))) pa_nil))) (pa_cons (pe_lst (pa_cons (pe_tup (pa_cons pe_str pa_nil)) (pa_cons (pe_tup (pa_cons pe_str (pa_cons (pv 2) (pa_cons (pv 2) pa_nil)))) pa_nil))) pa_nil))) pps_nil) (by rfl) (by rfl) (fun z => by cases z) (by decide)))
      (pss_mid (ps_dput hu (pv 5) pe_str (pe_lst (pa_cons (pe_lst (pa_cons (pe_tup (pa_cons pe_str pa_nil)) (pa_cons (pe_tup (pa_cons pe_str (pa_cons (pv 2) pa_nil))) pa_nil))) (pa_cons (pe_lst (pa_cons (pe_tup (pa_cons pe_str pa_nil)) (pa_cons (pe_tup (pa_cons pe_str (pa_cons (pv 2) pa_nil))) (pa_cons (pe_tup (pa_cons pe_str (pa_cons (pe_op op_add (pv 2) pe_int) pa_nil))) pa_nil)))) pa_nil))) rfl)
      (pss_mid (ps_dput hu (pv 5) pe_str (pe_lst (pa_cons (pe_lst (pa_cons (pe_tup (pa_cons pe_str pa_nil)) (pa_cons (pe_tup (pa_cons pe_str (pa_cons (pv 2) pa_nil))) pa_nil))) (pa_cons (pe_lst (pa_cons (pe_tup (pa_cons pe_str pa_nil)) (pa_cons (pe_tup (pa_cons pe_str (pa_cons (pv 2) pa_nil))) pa_nil))) pa_nil))) rfl)
      (pss_mid (ps_if (pt_cmp (pc_din hu (pv 3) (pv 5))) (pss_one (ps_ret (pe_ix ix_list (pe_dget hu (pv 5) (pv 3) (fun _ _ => rfl)) (pv 4) (fun _ _ => rfl)))) pss_nil)
      (pss_cons (ps_set (i := 6) sc_law_rewritten.nd rfl (.inl rfl) (pe_ix ix_tup (pv 1) pe_int (fun _ _ => rfl)))
      (pss_mid (ps_dput hu (pv 5) pe_str (pe_lst (pa_cons (pe_lst (pa_cons (pe_tup (pa_cons pe_str pa_nil)) (pa_cons (pe_tup (pa_cons pe_str (pa_cons (pv 2) (pa_cons (pv 6) pa_nil)))) pa_nil))) (pa_cons (pe_lst (pa_cons (pe_tup (pa_cons pe_str (pa_cons (pv 6) pa_nil))) (pa_cons (pe_tup (pa_cons pe_str pa_nil)) (pa_cons (pe_tup (pa_cons pe_str (pa_cons (pv 2) (pa_cons (pe_op op_add (pv 2) pe_int) pa_nil)))) pa_nil)))) pa_nil))) rfl)
      (pss_mid (ps_dput hu (pv 5) pe_str (pe_lst (pa_cons (pe_lst (pa_cons (pe_tup (pa_cons pe_str (pa_cons (pv 6) pa_nil))) (pa_cons (pe_tup (pa_cons pe_str pa_nil)) (pa_cons (pe_tup (pa_cons pe_str (pa_cons (pv 2) (pa_cons (pe_op op_add (pv 2) pe_int) pa_nil)))) pa_nil)))) (pa_cons (pe_lst (pa_cons (pe_tup (pa_cons pe_str pa_nil)) (pa_cons (pe_tup (pa_cons pe_str (pa_cons (pv 2) (pa_cons (pv 6) pa_nil)))) pa_nil))) pa_nil))) rfl)
      (pss_mid (ps_dput hu (pv 5) pe_str (pe_lst (pa_cons (pe_lst (pa_cons (pe_tup (pa_cons pe_str (pa_cons (pv 6) (pa_cons (pv 6) pa_nil)))) pa_nil)) (pa_cons (pe_lst (pa_cons (pe_tup (pa_cons pe_str (pa_cons (pv 6) pa_nil))) (pa_cons (pe_tup (pa_cons pe_str (pa_cons (pv 6) (pa_cons (pv 2) pa_nil)))) pa_nil))) pa_nil))) rfl)
      (pss_mid (ps_if (pt_cmp (pc_din hu (pv 3) (pv 5))) (pss_one (ps_ret (pe_ix ix_list (pe_dget hu (pv 5) (pv 3) (fun _ _ => rfl)) (pv 4) (fun _ _ => rfl)))) pss_nil)
      (pss_cons (ps_set (i := 7) sc_law_rewritten.nd rfl (.inl rfl) (pe_ix ix_tup (pv 1) pe_int (fun _ _ => rfl)))
      (pss_mid (ps_dput hu (pv 5) pe_str (pe_lst (pa_cons (pe_lst (pa_cons (pe_tup (pa_cons pe_str (pa_cons (pv 7) pa_nil))) (pa_cons (pe_tup (pa_cons pe_str (pa_cons (pv 6) (pa_cons (pv 2) pa_nil)))) pa_nil))) (pa_cons (pe_lst (pa_cons (pe_tup (pa_cons pe_str (pa_cons (pv 6) (pa_cons (pv 7) pa_nil)))) (pa_cons (pe_tup (pa_cons pe_str (pa_cons (pv 6) (pa_cons (pv 7) pa_nil)))) (pa_cons (pe_tup (pa_cons pe_str (pa_cons (pe_op op_add (pv 2) pe_int) pa_nil))) (pa_cons (pe_tup (pa_cons pe_str (pa_cons (pv 2) (pa_cons (pe_op op_add (pv 2) pe_int) pa_nil)))) pa_nil))))) pa_nil))) rfl)
      (pss_mid (ps_dput hu (pv 5) pe_str (pe_lst (pa_cons (pe_lst (pa_cons (pe_tup (pa_cons pe_str (pa_cons (pv 7) pa_nil))) (pa_cons (pe_tup (pa_cons pe_str (pa_cons (pv 6) (pa_cons (pv 2) pa_nil)))) pa_nil))) (pa_cons (pe_lst (pa_cons (pe_tup (pa_cons pe_str (pa_cons (pv 6) pa_nil))) (pa_cons (pe_tup (pa_cons pe_str (pa_cons (pv 2) (pa_cons (pv 7) pa_nil)))) (pa_cons (pe_tup (pa_cons pe_str (pa_cons (pe_op op_add (pv 2) pe_int) pa_nil))) pa_nil)))) pa_nil))) rfl)
      (pss_mid (ps_dput hu (pv 5) pe_str (pe_lst (pa_cons (pe_lst (pa_cons (pe_tup (pa_cons pe_str (pa_cons (pv 6) (pa_cons (pv 7) pa_nil)))) (pa_cons (pe_tup (pa_cons pe_str (pa_cons (pv 6) (pa_cons (pv 7) pa_nil)))) (pa_cons (pe_tup (pa_cons pe_str (pa_cons (pe_op op_add (pv 2) pe_int) (pa_cons (pv 2) pa_nil)))) pa_nil)))) (pa_cons (pe_lst (pa_cons (pe_tup (pa_cons pe_str (pa_cons (pv 6) pa_nil))) (pa_cons (pe_tup (pa_cons pe_str (pa_cons (pv 7) pa_nil))) (pa_cons (pe_tup (pa_cons pe_str (pa_cons (pv 2) (pa_cons (pe_op op_add (pv 2) pe_int) pa_nil)))) (pa_cons (pe_tup (pa_cons pe_str (pa_cons (pe_op op_add (pv 2) pe_int) pa_nil))) pa_nil))))) pa_nil))) rfl)
      (pss_mid (ps_dput hu (pv 5) pe_str (pe_lst (pa_cons (pe_lst (pa_cons (pe_tup (pa_cons pe_str (pa_cons (pv 6) (pa_cons (pv 7) pa_nil)))) (pa_cons (pe_tup (pa_cons pe_str (pa_cons (pv 6) (pa_cons (pv 7) pa_nil)))) (pa_cons (pe_tup (pa_cons pe_str (pa_cons (pv 2) (pa_cons (pe_op op_add (pv 2) pe_int) pa_nil)))) pa_nil)))) (pa_cons (pe_lst (pa_cons (pe_tup (pa_cons pe_str (pa_cons (pv 6) (pa_cons (pv 7) pa_nil)))) (pa_cons (pe_tup (pa_cons pe_str (pa_cons (pv 6) (pa_cons (pv 2) pa_nil)))) (pa_cons (pe_tup (pa_cons pe_str (pa_cons (pe_op op_add (pv 2) pe_int) (pa_cons (pv 7) pa_nil)))) pa_nil)))) pa_nil))) rfl)
      (pss_mid (ps_dput hu (pv 5) pe_str (pe_lst (pa_cons (pe_lst (pa_cons (pe_tup (pa_cons pe_str (pa_cons (pv 6) (pa_cons (pv 7) pa_nil)))) (pa_cons (pe_tup (pa_cons pe_str (pa_cons (pv 6) (pa_cons (pv 7) pa_nil)))) (pa_cons (pe_tup (pa_cons pe_str (pa_cons (pv 2) (pa_cons (pe_op op_add (pv 2) pe_int) pa_nil)))) pa_nil)))) (pa_cons (pe_lst (pa_cons (pe_tup (pa_cons pe_str (pa_cons (pv 6) (pa_cons (pv 7) pa_nil)))) (pa_cons (pe_tup (pa_cons pe_str (pa_cons (pv 2) pa_nil))) (pa_cons (pe_tup (pa_cons pe_str (pa_cons (pv 6) (pa_cons (pv 7) pa_nil)))) (pa_cons (pe_tup (pa_cons pe_str (pa_cons (pe_op op_add (pv 2) pe_int) (pa_cons (pe_op op_add (pv 2) pe_int) pa_nil)))) pa_nil))))) pa_nil))) rfl)
      (pss_one (ps_ret (pe_ix ix_list (pe_dget hu (pv 5) (pv 3) (fun _ _ => rfl)) (pv 4) (fun _ _ => rfl))))))))))))))))))), ?_⟩
    refine ⟨.ref r, rfl, r, _, 0, .str d.1, rfl, rfl, SqT.of er, dv0 d, .ref a, rfl, a, 2, rfl, by decide, by decide, ht, fun H1 z z0 z1 t1 b1 => ⟨_, _, rfl, ?_⟩⟩
    have ts1 : TupsStay H H1 := b1.tape ht
    have er1 := ts1 _ _ er
    -- what is told at last
    have fin : ∀ (H2 : Hp) (S : Addr) (tab : OTab), Same H1 H2 → OD H2 S tab → (∀ e ∈ tab, e ∈ rwT d t ∧ e.2.length = 2 ∧ ∀ es ∈ e.2, DsOk t es ∧ 1 ≤ es.length ∧ es.length ≤ 4) → (∃ e ∈ tab, e.1 = d.1) →
        ∃ (A : Addr) (ls : List Addr) (x : Addr), DGet H2 S (.str d.1) (some (.ref A)) ∧ H2 A = some (.lst (ls.map V.ref)) ∧ atI (ls.map V.ref) z = some (.ref x) ∧ Q (.ref x) H2 := by
      intro H2 S tab s2 hod htab hin
      obtain ⟨kvs, eS, hk⟩ := hod
      obtain ⟨os, A, ls, g1, g2, g3, g4⟩ := ot_some hk hin
      obtain ⟨i1, l2, i3⟩ := htab _ g1
      have ll := awLen g4
      have l2' : os.length = 2 := l2
      obtain ⟨zn, rfl⟩ := Int.eq_ofNat_of_zero_le z0
      have zl : zn < ls.length := by omega
      obtain ⟨es, h1, rs, h2, h3⟩ := awGet g4 (List.getElem?_eq_getElem zl)
      refine ⟨A, ls, ls[zn], .inl ⟨kvs, Sum.inr d.1, .inl eS, rfl, g2.symm⟩, g3, atI_nat (by rw [List.getElem?_map, List.getElem?_eq_getElem zl]; rfl), ?_⟩
      obtain ⟨j1, j2, j3⟩ := i3 es (List.mem_of_getElem? h1)
      exact q H2 ls[zn] rs es (t1.same s2) (b1.trans (But.same s2)) h2 h3 ⟨⟨os, i1, List.mem_of_getElem? h1⟩, j1, j2, j3⟩
    have non : ∀ (H2 : Hp) (S : Addr) (tab : OTab), OD H2 S tab → (¬ ∃ e ∈ tab, e.1 = d.1) → DGet H2 S (.str d.1) none := by
      intro H2 S tab hod hno
      obtain ⟨kvs, eS, hk⟩ := hod
      exact .inl ⟨kvs, Sum.inr d.1, .inl eS, rfl, (ot_none hk fun e he z => hno ⟨e, he, z⟩).symm⟩
    have put : ∀ (H2 : Hp) (S : Addr) (tab : OTab) (x : Str) (os : List (List Deed)) (H3 : Hp) (A : Addr) (ls : List Addr), H1 S = none → Same H1 H2 → OD H2 S tab → (∀ e ∈ tab, e.1 ≠ x) → tab.length ≤ 20 → Same H2 H3 → H3 A = some (.lst (ls.map V.ref)) → LdsA H3 ls os → ∃ H4, DPut H3 S (.str x) (.ref A) H4 ∧ OD H4 S (tab ++ [(x, os)]) ∧ Same H1 H4 := by
      intro H2 S tab x os H3 A ls nS s2 hod hx few s3 eA hl
      obtain ⟨H4, h1, h2, h3⟩ := od_put hod s3 hx eA hl few
      exact ⟨H4, h1, h2, fun b u e => h3 b u (ne_of_none e nS) (s3 _ _ (s2 _ _ e))⟩
    refine ⟨fun σ2 H2 => ∃ S, σ2 = [some (.ref a), some (.ref r), some (.int t), some (.str d.1), some (.int z), some (.ref S), none, none] ∧ OD H2 S (([("none", [[("all", []), ("not", [t])], [("one", []), ("sub", [t, t])]])] : OTab)) ∧ Same H1 H2 ∧ H1 S = none, ?_, ?_⟩
    · intro S hS
      have sS := same_new (o := .dK []) hS
      unfold tPairs
      refine pure_c _ _ ?_
      dsimp only
      refine (mkg (mkos_cons (mko (mkds_cons mkd0 (mkds_cons (mkd1 (pure_v rfl)) mkds_nil)) (by show 2 ≤ 100; decide)) (mkos_cons (mko (mkds_cons mkd0 (mkds_cons (mkd2 (pure_v rfl) (pure_v rfl)) mkds_nil)) (by show 2 ≤ 100; decide)) mkos_nil)) (by show 2 ≤ 100; decide)) _ _ fun H2 A ls s2 nA eA hl => ?_
      have eS2 := s2 S (.dK []) upd_same
      refine ⟨eS2, [(Sum.inr "none", .ref A)], rfl, (by show 1 ≤ 15; decide), S, rfl, ⟨_, upd_same, .cons ?_ .nil⟩, ?_, hS⟩
      · exact OTe.but (e := ("none", _)) ⟨rfl, A, ls, rfl, eA, hl⟩ eS2 But.put
      · intro b u e
        rw [upd_ne (ne_of_none e hS)]
        exact s2 _ _ (sS _ _ e)
    rintro σ2 H2 ⟨S, rfl, hod, s2, nS⟩
    refine ⟨fun σ2 H2 => ∃ S, σ2 = [some (.ref a), some (.ref r), some (.int t), some (.str d.1), some (.int z), some (.ref S), none, none] ∧ OD H2 S (([("none", [[("all", []), ("not", [t])], [("one", []), ("sub", [t, t])]]), ("one", [[("all", []), ("neg", [t])], [("none", []), ("not", [t]), ("neg", [t + 1])]])] : OTab)) ∧ Same H1 H2 ∧ H1 S = none, ?_, ?_⟩
    · refine (mkg (mkos_cons (mko (mkds_cons mkd0 (mkds_cons (mkd1 (pure_v rfl)) mkds_nil)) (by show 2 ≤ 100; decide)) (mkos_cons (mko (mkds_cons mkd0 (mkds_cons (mkd1 (pure_v rfl)) (mkds_cons (mkd1 (pure_add (pure_v rfl) pure_c)) mkds_nil))) (by show 3 ≤ 100; decide)) mkos_nil)) (by show 2 ≤ 100; decide)) _ _ fun H3 A ls s3 nA eA hl => ?_
      obtain ⟨H4, p1, p2, p3⟩ := put H2 S _ "one" _ H3 A ls nS s2 hod (fun e he z => absurd (z ▸ List.mem_map_of_mem (f := Prod.fst) he) (show ¬ ("one" : Str) ∈ (["none"] : List Str) from by decide +kernel)) (by show 1 ≤ 20; decide) s3 eA hl
      exact ⟨.ref S, rfl, S, H4, rfl, p1, S, rfl, p2, p3, nS⟩
    rintro σ2 H2 ⟨S, rfl, hod, s2, nS⟩
    refine ⟨fun σ2 H2 => ∃ S, σ2 = [some (.ref a), some (.ref r), some (.int t), some (.str d.1), some (.int z), some (.ref S), none, none] ∧ OD H2 S (([("none", [[("all", []), ("not", [t])], [("one", []), ("sub", [t, t])]]), ("one", [[("all", []), ("neg", [t])], [("none", []), ("not", [t]), ("neg", [t + 1])]]), ("all", [[("one", []), ("neg", [t])], [("none", []), ("not", [t])]])] : OTab)) ∧ Same H1 H2 ∧ H1 S = none, ?_, ?_⟩
    · refine (mkg (mkos_cons (mko (mkds_cons mkd0 (mkds_cons (mkd1 (pure_v rfl)) mkds_nil)) (by show 2 ≤ 100; decide)) (mkos_cons (mko (mkds_cons mkd0 (mkds_cons (mkd1 (pure_v rfl)) mkds_nil)) (by show 2 ≤ 100; decide)) mkos_nil)) (by show 2 ≤ 100; decide)) _ _ fun H3 A ls s3 nA eA hl => ?_
      obtain ⟨H4, p1, p2, p3⟩ := put H2 S _ "all" _ H3 A ls nS s2 hod (fun e he z => absurd (z ▸ List.mem_map_of_mem (f := Prod.fst) he) (show ¬ ("all" : Str) ∈ (["none", "one"] : List Str) from by decide +kernel)) (by show 2 ≤ 20; decide) s3 eA hl
      exact ⟨.ref S, rfl, S, H4, rfl, p1, S, rfl, p2, p3, nS⟩
    have hA : ∀ e ∈ (rwA t : OTab), e ∈ rwT d t ∧ e.2.length = 2 ∧ ∀ es ∈ e.2, DsOk t es ∧ 1 ≤ es.length ∧ es.length ≤ 4 := fun e he => ⟨List.mem_append_left _ (List.mem_append_left _ he), rwA_two e he, rwA_ok t0 e he⟩
    rintro σ2 H2 ⟨S, rfl, hod, s2, nS⟩
    refine ⟨fun σ2 H2 => ∃ S, σ2 = [some (.ref a), some (.ref r), some (.int t), some (.str d.1), some (.int z), some (.ref S), none, none] ∧ OD H2 S (rwA t) ∧ Same H1 H2 ∧ H1 S = none ∧ ¬ ∃ e ∈ (rwA t : OTab), e.1 = d.1, ?_, ?_⟩
    · by_cases hin : ∃ e ∈ (rwA t : OTab), e.1 = d.1
      · obtain ⟨A, ls, x, g1, g2, g3, g4⟩ := fin H2 S (rwA t) s2 hod (hA) hin
        exact ⟨.str d.1, rfl, .ref S, rfl, S, _, rfl, g1, _, rfl, iteT ⟨.ref S, rfl, .str d.1, rfl, S, .ref A, rfl, g1, .int z, rfl, A, _, z, .ref x, rfl, rfl, .inl (.inl g2), g3, g4⟩⟩
      · exact ⟨.str d.1, rfl, .ref S, rfl, S, _, rfl, non H2 S _ hod hin, _, rfl, iteF ⟨S, rfl, hod, s2, nS, hin⟩⟩
    rintro σ2 H2 ⟨S, rfl, hod, s2, nS, nin⟩
    have n1 : ¬ d.1 = "none" := fun z => nin ⟨_, List.mem_cons_self, z.symm⟩
    have n2 : ¬ d.1 = "one" := fun z => nin ⟨_, List.mem_cons_of_mem _ List.mem_cons_self, z.symm⟩
    have n3 : ¬ d.1 = "all" := fun z => nin ⟨_, List.mem_cons_of_mem _ (List.mem_cons_of_mem _ List.mem_cons_self), z.symm⟩
    obtain ⟨i, hi, hi2⟩ := deed_a ok n1 n2 n3
    have gi : d.2.getD 0 0 = i := by rw [List.getD_eq_getElem?_getD, hi]; rfl
    refine ⟨.ref r, rfl, r, _, 1, .int i, rfl, rfl, SqT.of (s2 _ _ er1), dvN (k := 0) hi, ?_⟩
    refine ⟨fun σ2 H2 => ∃ S, σ2 = [some (.ref a), some (.ref r), some (.int t), some (.str d.1), some (.int z), some (.ref S), some (.int i), none] ∧ OD H2 S (rwA t ++ ([("not", [[("all", []), ("xor", [t, i])], [("neg", [i]), ("one", []), ("sub", [t, t + 1])]])] : OTab)) ∧ Same H1 H2 ∧ H1 S = none, ?_, ?_⟩
    · refine (mkg (mkos_cons (mko (mkds_cons mkd0 (mkds_cons (mkd2 (pure_v rfl) (pure_v rfl)) mkds_nil)) (by show 2 ≤ 100; decide)) (mkos_cons (mko (mkds_cons (mkd1 (pure_v rfl)) (mkds_cons mkd0 (mkds_cons (mkd2 (pure_v rfl) (pure_add (pure_v rfl) pure_c)) mkds_nil))) (by show 3 ≤ 100; decide)) mkos_nil)) (by show 2 ≤ 100; decide)) _ _ fun H3 A ls s3 nA eA hl => ?_
      obtain ⟨H4, p1, p2, p3⟩ := put H2 S (rwA t) "not" _ H3 A ls nS s2 hod (fun e he z => absurd (z ▸ List.mem_map_of_mem (f := Prod.fst) he) (show ¬ ("not" : Str) ∈ (["none", "one", "all"] : List Str) from by decide +kernel)) (by show 3 ≤ 20; decide) s3 eA hl
      exact ⟨.ref S, rfl, S, H4, rfl, p1, S, rfl, p2, p3, nS⟩
    rintro σ2 H2 ⟨S, rfl, hod, s2, nS⟩
    refine ⟨fun σ2 H2 => ∃ S, σ2 = [some (.ref a), some (.ref r), some (.int t), some (.str d.1), some (.int z), some (.ref S), some (.int i), none] ∧ OD H2 S (rwA t ++ ([("not", [[("all", []), ("xor", [t, i])], [("neg", [i]), ("one", []), ("sub", [t, t + 1])]]), ("neg", [[("not", [i]), ("one", []), ("add", [t, t + 1])], [("none", []), ("sub", [t, i])]])] : OTab)) ∧ Same H1 H2 ∧ H1 S = none, ?_, ?_⟩
    · refine (mkg (mkos_cons (mko (mkds_cons (mkd1 (pure_v rfl)) (mkds_cons mkd0 (mkds_cons (mkd2 (pure_v rfl) (pure_add (pure_v rfl) pure_c)) mkds_nil))) (by show 3 ≤ 100; decide)) (mkos_cons (mko (mkds_cons mkd0 (mkds_cons (mkd2 (pure_v rfl) (pure_v rfl)) mkds_nil)) (by show 2 ≤ 100; decide)) mkos_nil)) (by show 2 ≤ 100; decide)) _ _ fun H3 A ls s3 nA eA hl => ?_
      obtain ⟨H4, p1, p2, p3⟩ := put H2 S (rwA t ++ ([("not", [[("all", []), ("xor", [t, i])], [("neg", [i]), ("one", []), ("sub", [t, t + 1])]])] : OTab)) "neg" _ H3 A ls nS s2 hod (fun e he z => absurd (z ▸ List.mem_map_of_mem (f := Prod.fst) he) (show ¬ ("neg" : Str) ∈ (["none", "one", "all", "not"] : List Str) from by decide +kernel)) (by show 4 ≤ 20; decide) s3 eA hl
      exact ⟨.ref S, rfl, S, H4, rfl, p1, S, rfl, by rw [List.append_assoc] at p2; exact p2, p3, nS⟩
    rintro σ2 H2 ⟨S, rfl, hod, s2, nS⟩
    refine ⟨fun σ2 H2 => ∃ S, σ2 = [some (.ref a), some (.ref r), some (.int t), some (.str d.1), some (.int z), some (.ref S), some (.int i), none] ∧ OD H2 S (rwA t ++ ([("not", [[("all", []), ("xor", [t, i])], [("neg", [i]), ("one", []), ("sub", [t, t + 1])]]), ("neg", [[("not", [i]), ("one", []), ("add", [t, t + 1])], [("none", []), ("sub", [t, i])]]), ("twice", [[("add", [i, i])], [("neg", [i]), ("sub", [i, t])]])] : OTab)) ∧ Same H1 H2 ∧ H1 S = none, ?_, ?_⟩
    · refine (mkg (mkos_cons (mko (mkds_cons (mkd2 (pure_v rfl) (pure_v rfl)) mkds_nil) (by show 1 ≤ 100; decide)) (mkos_cons (mko (mkds_cons (mkd1 (pure_v rfl)) (mkds_cons (mkd2 (pure_v rfl) (pure_v rfl)) mkds_nil)) (by show 2 ≤ 100; decide)) mkos_nil)) (by show 2 ≤ 100; decide)) _ _ fun H3 A ls s3 nA eA hl => ?_
      obtain ⟨H4, p1, p2, p3⟩ := put H2 S (rwA t ++ ([("not", [[("all", []), ("xor", [t, i])], [("neg", [i]), ("one", []), ("sub", [t, t + 1])]]), ("neg", [[("not", [i]), ("one", []), ("add", [t, t + 1])], [("none", []), ("sub", [t, i])]])] : OTab)) "twice" _ H3 A ls nS s2 hod (fun e he z => absurd (z ▸ List.mem_map_of_mem (f := Prod.fst) he) (show ¬ ("twice" : Str) ∈ (["none", "one", "all", "not", "neg"] : List Str) from by decide +kernel)) (by show 5 ≤ 20; decide) s3 eA hl
      exact ⟨.ref S, rfl, S, H4, rfl, p1, S, rfl, by rw [List.append_assoc] at p2; exact p2, p3, nS⟩
    have hB : ∀ e ∈ (rwA t ++ rwB t i : OTab), e ∈ rwT d t ∧ e.2.length = 2 ∧ ∀ es ∈ e.2, DsOk t es ∧ 1 ≤ es.length ∧ es.length ≤ 4 := fun e he => by
      rcases List.mem_append.mp he with he | he
      · exact hA e he
      · exact ⟨List.mem_append_left _ (List.mem_append_right _ (by rw [gi]; exact he)), rwB_two e he, rwB_ok t0 hi2 e he⟩
    rintro σ2 H2 ⟨S, rfl, hod, s2, nS⟩
    refine ⟨fun σ2 H2 => ∃ S, σ2 = [some (.ref a), some (.ref r), some (.int t), some (.str d.1), some (.int z), some (.ref S), some (.int i), none] ∧ OD H2 S (rwA t ++ rwB t i) ∧ Same H1 H2 ∧ H1 S = none ∧ ¬ ∃ e ∈ (rwA t ++ rwB t i : OTab), e.1 = d.1, ?_, ?_⟩
    · by_cases hin : ∃ e ∈ (rwA t ++ rwB t i : OTab), e.1 = d.1
      · obtain ⟨A, ls, x, g1, g2, g3, g4⟩ := fin H2 S (rwA t ++ rwB t i) s2 hod (hB) hin
        exact ⟨.str d.1, rfl, .ref S, rfl, S, _, rfl, g1, _, rfl, iteT ⟨.ref S, rfl, .str d.1, rfl, S, .ref A, rfl, g1, .int z, rfl, A, _, z, .ref x, rfl, rfl, .inl (.inl g2), g3, g4⟩⟩
      · exact ⟨.str d.1, rfl, .ref S, rfl, S, _, rfl, non H2 S _ hod hin, _, rfl, iteF ⟨S, rfl, hod, s2, nS, hin⟩⟩
    rintro σ2 H2 ⟨S, rfl, hod, s2, nS, nin2⟩
    have n4 : ¬ d.1 = "not" := fun z => nin2 ⟨_, List.mem_append_right _ List.mem_cons_self, z.symm⟩
    have n5 : ¬ d.1 = "neg" := fun z => nin2 ⟨_, List.mem_append_right _ (List.mem_cons_of_mem _ List.mem_cons_self), z.symm⟩
    have n6 : ¬ d.1 = "twice" := fun z => nin2 ⟨_, List.mem_append_right _ (List.mem_cons_of_mem _ (List.mem_cons_of_mem _ List.mem_cons_self)), z.symm⟩
    obtain ⟨j, hj, hj2⟩ := deed_b ok n1 n2 n3 n4 n5 n6
    have gj : d.2.getD 1 0 = j := by rw [List.getD_eq_getElem?_getD, hj]; rfl
    refine ⟨.ref r, rfl, r, _, 2, .int j, rfl, rfl, SqT.of (s2 _ _ er1), dvN (k := 1) hj, ?_⟩
    refine ⟨fun σ2 H2 => ∃ S, σ2 = [some (.ref a), some (.ref r), some (.int t), some (.str d.1), some (.int z), some (.ref S), some (.int i), some (.int j)] ∧ OD H2 S (rwA t ++ rwB t i ++ ([("add", [[("neg", [j]), ("sub", [i, t])], [("xor", [i, j]), ("and", [i, j]), ("twice", [t + 1]), ("add", [t, t + 2])]])] : OTab)) ∧ Same H1 H2 ∧ H1 S = none, ?_, ?_⟩
    · refine (mkg (mkos_cons (mko (mkds_cons (mkd1 (pure_v rfl)) (mkds_cons (mkd2 (pure_v rfl) (pure_v rfl)) mkds_nil)) (by show 2 ≤ 100; decide)) (mkos_cons (mko (mkds_cons (mkd2 (pure_v rfl) (pure_v rfl)) (mkds_cons (mkd2 (pure_v rfl) (pure_v rfl)) (mkds_cons (mkd1 (pure_add (pure_v rfl) pure_c)) (mkds_cons (mkd2 (pure_v rfl) (pure_add (pure_v rfl) pure_c)) mkds_nil)))) (by show 4 ≤ 100; decide)) mkos_nil)) (by show 2 ≤ 100; decide)) _ _ fun H3 A ls s3 nA eA hl => ?_
      obtain ⟨H4, p1, p2, p3⟩ := put H2 S (rwA t ++ rwB t i) "add" _ H3 A ls nS s2 hod (fun e he z => absurd (z ▸ List.mem_map_of_mem (f := Prod.fst) he) (show ¬ ("add" : Str) ∈ (["none", "one", "all", "not", "neg", "twice"] : List Str) from by decide +kernel)) (by show 6 ≤ 20; decide) s3 eA hl
      exact ⟨.ref S, rfl, S, H4, rfl, p1, S, rfl, p2, p3, nS⟩
    rintro σ2 H2 ⟨S, rfl, hod, s2, nS⟩
    refine ⟨fun σ2 H2 => ∃ S, σ2 = [some (.ref a), some (.ref r), some (.int t), some (.str d.1), some (.int z), some (.ref S), some (.int i), some (.int j)] ∧ OD H2 S (rwA t ++ rwB t i ++ ([("add", [[("neg", [j]), ("sub", [i, t])], [("xor", [i, j]), ("and", [i, j]), ("twice", [t + 1]), ("add", [t, t + 2])]]), ("sub", [[("neg", [j]), ("add", [i, t])], [("not", [i]), ("add", [t, j]), ("not", [t + 1])]])] : OTab)) ∧ Same H1 H2 ∧ H1 S = none, ?_, ?_⟩
    · refine (mkg (mkos_cons (mko (mkds_cons (mkd1 (pure_v rfl)) (mkds_cons (mkd2 (pure_v rfl) (pure_v rfl)) mkds_nil)) (by show 2 ≤ 100; decide)) (mkos_cons (mko (mkds_cons (mkd1 (pure_v rfl)) (mkds_cons (mkd2 (pure_v rfl) (pure_v rfl)) (mkds_cons (mkd1 (pure_add (pure_v rfl) pure_c)) mkds_nil))) (by show 3 ≤ 100; decide)) mkos_nil)) (by show 2 ≤ 100; decide)) _ _ fun H3 A ls s3 nA eA hl => ?_
      obtain ⟨H4, p1, p2, p3⟩ := put H2 S (rwA t ++ rwB t i ++ ([("add", [[("neg", [j]), ("sub", [i, t])], [("xor", [i, j]), ("and", [i, j]), ("twice", [t + 1]), ("add", [t, t + 2])]])] : OTab)) "sub" _ H3 A ls nS s2 hod (fun e he z => absurd (z ▸ List.mem_map_of_mem (f := Prod.fst) he) (show ¬ ("sub" : Str) ∈ (["none", "one", "all", "not", "neg", "twice", "add"] : List Str) from by decide +kernel)) (by show 7 ≤ 20; decide) s3 eA hl
      exact ⟨.ref S, rfl, S, H4, rfl, p1, S, rfl, by rw [List.append_assoc] at p2; exact p2, p3, nS⟩
    rintro σ2 H2 ⟨S, rfl, hod, s2, nS⟩
    refine ⟨fun σ2 H2 => ∃ S, σ2 = [some (.ref a), some (.ref r), some (.int t), some (.str d.1), some (.int z), some (.ref S), some (.int i), some (.int j)] ∧ OD H2 S (rwA t ++ rwB t i ++ ([("add", [[("neg", [j]), ("sub", [i, t])], [("xor", [i, j]), ("and", [i, j]), ("twice", [t + 1]), ("add", [t, t + 2])]]), ("sub", [[("neg", [j]), ("add", [i, t])], [("not", [i]), ("add", [t, j]), ("not", [t + 1])]]), ("and", [[("or", [i, j]), ("add", [i, j]), ("sub", [t + 1, t])], [("not", [i]), ("not", [j]), ("or", [t, t + 1]), ("not", [t + 2])]])] : OTab)) ∧ Same H1 H2 ∧ H1 S = none, ?_, ?_⟩
    · refine (mkg (mkos_cons (mko (mkds_cons (mkd2 (pure_v rfl) (pure_v rfl)) (mkds_cons (mkd2 (pure_v rfl) (pure_v rfl)) (mkds_cons (mkd2 (pure_add (pure_v rfl) pure_c) (pure_v rfl)) mkds_nil))) (by show 3 ≤ 100; decide)) (mkos_cons (mko (mkds_cons (mkd1 (pure_v rfl)) (mkds_cons (mkd1 (pure_v rfl)) (mkds_cons (mkd2 (pure_v rfl) (pure_add (pure_v rfl) pure_c)) (mkds_cons (mkd1 (pure_add (pure_v rfl) pure_c)) mkds_nil)))) (by show 4 ≤ 100; decide)) mkos_nil)) (by show 2 ≤ 100; decide)) _ _ fun H3 A ls s3 nA eA hl => ?_
      obtain ⟨H4, p1, p2, p3⟩ := put H2 S (rwA t ++ rwB t i ++ ([("add", [[("neg", [j]), ("sub", [i, t])], [("xor", [i, j]), ("and", [i, j]), ("twice", [t + 1]), ("add", [t, t + 2])]]), ("sub", [[("neg", [j]), ("add", [i, t])], [("not", [i]), ("add", [t, j]), ("not", [t + 1])]])] : OTab)) "and" _ H3 A ls nS s2 hod (fun e he z => absurd (z ▸ List.mem_map_of_mem (f := Prod.fst) he) (show ¬ ("and" : Str) ∈ (["none", "one", "all", "not", "neg", "twice", "add", "sub"] : List Str) from by decide +kernel)) (by show 8 ≤ 20; decide) s3 eA hl
      exact ⟨.ref S, rfl, S, H4, rfl, p1, S, rfl, by rw [List.append_assoc] at p2; exact p2, p3, nS⟩
    rintro σ2 H2 ⟨S, rfl, hod, s2, nS⟩
    refine ⟨fun σ2 H2 => ∃ S, σ2 = [some (.ref a), some (.ref r), some (.int t), some (.str d.1), some (.int z), some (.ref S), some (.int i), some (.int j)] ∧ OD H2 S (rwA t ++ rwB t i ++ ([("add", [[("neg", [j]), ("sub", [i, t])], [("xor", [i, j]), ("and", [i, j]), ("twice", [t + 1]), ("add", [t, t + 2])]]), ("sub", [[("neg", [j]), ("add", [i, t])], [("not", [i]), ("add", [t, j]), ("not", [t + 1])]]), ("and", [[("or", [i, j]), ("add", [i, j]), ("sub", [t + 1, t])], [("not", [i]), ("not", [j]), ("or", [t, t + 1]), ("not", [t + 2])]]), ("or", [[("xor", [i, j]), ("and", [i, j]), ("add", [t, t + 1])], [("and", [i, j]), ("sub", [i, t]), ("add", [t + 1, j])]])] : OTab)) ∧ Same H1 H2 ∧ H1 S = none, ?_, ?_⟩
    · refine (mkg (mkos_cons (mko (mkds_cons (mkd2 (pure_v rfl) (pure_v rfl)) (mkds_cons (mkd2 (pure_v rfl) (pure_v rfl)) (mkds_cons (mkd2 (pure_v rfl) (pure_add (pure_v rfl) pure_c)) mkds_nil))) (by show 3 ≤ 100; decide)) (mkos_cons (mko (mkds_cons (mkd2 (pure_v rfl) (pure_v rfl)) (mkds_cons (mkd2 (pure_v rfl) (pure_v rfl)) (mkds_cons (mkd2 (pure_add (pure_v rfl) pure_c) (pure_v rfl)) mkds_nil))) (by show 3 ≤ 100; decide)) mkos_nil)) (by show 2 ≤ 100; decide)) _ _ fun H3 A ls s3 nA eA hl => ?_
      obtain ⟨H4, p1, p2, p3⟩ := put H2 S (rwA t ++ rwB t i ++ ([("add", [[("neg", [j]), ("sub", [i, t])], [("xor", [i, j]), ("and", [i, j]), ("twice", [t + 1]), ("add", [t, t + 2])]]), ("sub", [[("neg", [j]), ("add", [i, t])], [("not", [i]), ("add", [t, j]), ("not", [t + 1])]]), ("and", [[("or", [i, j]), ("add", [i, j]), ("sub", [t + 1, t])], [("not", [i]), ("not", [j]), ("or", [t, t + 1]), ("not", [t + 2])]])] : OTab)) "or" _ H3 A ls nS s2 hod (fun e he z => absurd (z ▸ List.mem_map_of_mem (f := Prod.fst) he) (show ¬ ("or" : Str) ∈ (["none", "one", "all", "not", "neg", "twice", "add", "sub", "and"] : List Str) from by decide +kernel)) (by show 9 ≤ 20; decide) s3 eA hl
      exact ⟨.ref S, rfl, S, H4, rfl, p1, S, rfl, by rw [List.append_assoc] at p2; exact p2, p3, nS⟩
    rintro σ2 H2 ⟨S, rfl, hod, s2, nS⟩
    refine ⟨fun σ2 H2 => ∃ S, σ2 = [some (.ref a), some (.ref r), some (.int t), some (.str d.1), some (.int z), some (.ref S), some (.int i), some (.int j)] ∧ OD H2 S (rwA t ++ rwB t i ++ ([("add", [[("neg", [j]), ("sub", [i, t])], [("xor", [i, j]), ("and", [i, j]), ("twice", [t + 1]), ("add", [t, t + 2])]]), ("sub", [[("neg", [j]), ("add", [i, t])], [("not", [i]), ("add", [t, j]), ("not", [t + 1])]]), ("and", [[("or", [i, j]), ("add", [i, j]), ("sub", [t + 1, t])], [("not", [i]), ("not", [j]), ("or", [t, t + 1]), ("not", [t + 2])]]), ("or", [[("xor", [i, j]), ("and", [i, j]), ("add", [t, t + 1])], [("and", [i, j]), ("sub", [i, t]), ("add", [t + 1, j])]]), ("xor", [[("or", [i, j]), ("and", [i, j]), ("sub", [t, t + 1])], [("and", [i, j]), ("twice", [t]), ("add", [i, j]), ("sub", [t + 2, t + 1])]])] : OTab)) ∧ Same H1 H2 ∧ H1 S = none, ?_, ?_⟩
    · refine (mkg (mkos_cons (mko (mkds_cons (mkd2 (pure_v rfl) (pure_v rfl)) (mkds_cons (mkd2 (pure_v rfl) (pure_v rfl)) (mkds_cons (mkd2 (pure_v rfl) (pure_add (pure_v rfl) pure_c)) mkds_nil))) (by show 3 ≤ 100; decide)) (mkos_cons (mko (mkds_cons (mkd2 (pure_v rfl) (pure_v rfl)) (mkds_cons (mkd1 (pure_v rfl)) (mkds_cons (mkd2 (pure_v rfl) (pure_v rfl)) (mkds_cons (mkd2 (pure_add (pure_v rfl) pure_c) (pure_add (pure_v rfl) pure_c)) mkds_nil)))) (by show 4 ≤ 100; decide)) mkos_nil)) (by show 2 ≤ 100; decide)) _ _ fun H3 A ls s3 nA eA hl => ?_
      obtain ⟨H4, p1, p2, p3⟩ := put H2 S (rwA t ++ rwB t i ++ ([("add", [[("neg", [j]), ("sub", [i, t])], [("xor", [i, j]), ("and", [i, j]), ("twice", [t + 1]), ("add", [t, t + 2])]]), ("sub", [[("neg", [j]), ("add", [i, t])], [("not", [i]), ("add", [t, j]), ("not", [t + 1])]]), ("and", [[("or", [i, j]), ("add", [i, j]), ("sub", [t + 1, t])], [("not", [i]), ("not", [j]), ("or", [t, t + 1]), ("not", [t + 2])]]), ("or", [[("xor", [i, j]), ("and", [i, j]), ("add", [t, t + 1])], [("and", [i, j]), ("sub", [i, t]), ("add", [t + 1, j])]])] : OTab)) "xor" _ H3 A ls nS s2 hod (fun e he z => absurd (z ▸ List.mem_map_of_mem (f := Prod.fst) he) (show ¬ ("xor" : Str) ∈ (["none", "one", "all", "not", "neg", "twice", "add", "sub", "and", "or"] : List Str) from by decide +kernel)) (by show 10 ≤ 20; decide) s3 eA hl
      exact ⟨.ref S, rfl, S, H4, rfl, p1, S, rfl, by rw [List.append_assoc] at p2; exact p2, p3, nS⟩
    rintro σ2 H2 ⟨S, rfl, hod, s2, nS⟩
    have hC : ∀ e ∈ (rwA t ++ rwB t i ++ rwC t i j : OTab), e ∈ rwT d t ∧ e.2.length = 2 ∧ ∀ es ∈ e.2, DsOk t es ∧ 1 ≤ es.length ∧ es.length ≤ 4 := fun e he => by
      rcases List.mem_append.mp he with he | he
      · exact hB e he
      · exact ⟨List.mem_append_right _ (by rw [gi, gj]; exact he), rwC_two e he, rwC_ok t0 hi2 hj2 e he⟩
    have hin : ∃ e ∈ (rwA t ++ rwB t i ++ rwC t i j : OTab), e.1 = d.1 := by
      obtain ⟨e, he, z⟩ := deed_c (t := t) (i := i) (j := j) ok n1 n2 n3 n4 n5 n6
      exact ⟨e, List.mem_append_right _ he, z⟩
    obtain ⟨A, ls, x, g1, g2, g3, g4⟩ := fin H2 S (rwA t ++ rwB t i ++ rwC t i j) s2 hod hC hin
    exact ⟨.ref S, rfl, .str d.1, rfl, S, .ref A, rfl, g1, .int z, rfl, A, _, z, .ref x, rfl, rfl, .inl (.inl g2), g3, g4⟩
/-! ### rows, as numbers -/
structure Rw where
  m : Int
  ds : List Deed
  o : Int
abbrev RwAt (H : Hp) (a : Addr) (r : Rw) : Prop := RowAt H a r.m r.ds r.o
abbrev RwsAt (H : Hp) : List Addr → List Rw → Prop := Paired (RwAt H)
abbrev RwOk (r : Rw) : Prop := RowOk r.m r.ds r.o
theorem stayRws {H H' : Hp} (t : TupsStay H H') {as : List Addr} {rws : List Rw} (h : RwsAt H as rws) : RwsAt H' as rws := awMap (fun _ _ e => t.row e) h
theorem awAt0 {as : List Addr} {a : Addr} {l : List Addr} (h : as = a :: l) : atI (as.map V.ref) 0 = some (.ref a) := by
  subst h
  exact atI_nat (j := 0) rfl
theorem row0 {m o : Int} {D : Addr} : atI [V.int m, .ref D, .int o] 0 = some (.int m) := atI_nat (j := 0) rfl
def rLen (K : PySem.W.Frag) : List V → Hp → VK → Prop := fun xs H Q => ∃ p ys, xs = [.ref p] ∧ (SqL K H p ys ∨ SqT K H p ys) ∧ Q (.int ys.length) H
/-! ### a text and a dict are not equal -/
section eqd
open PySem.SeqAt PySem.MeetsSeq PySem.MeetsSeq2 PySem.MeetsSeq3 PySem.AutoSeq1
theorem dict_eq_declines_str (l : Addr) (es : Array DictEntry) (n : Nat) (dd : Option Addr) (sl : Array (Option Value)) (b : Str) (u : Tok) :
    Meets (Builtin.«dict.__eq__» ⟨[.ref l, .str b u], []⟩) (fun _ R s => s.heap.get? l = some { cls := .type "dict", dict := dd, data := .dict es n, slots := sl } ∧ R (.ok (.ret .notImplemented)) s) :=
  .of_wp fun prog w A R s h => by obtain ⟨hp, g, d, tk, os⟩ := s; obtain ⟨hl, h⟩ := h; have f1 := F.sub_str_dict; wp_walk using wpAny_loadPart' hl; exact ⟨_, rfl, h⟩
theorem str_eq_declines_dict (b : Str) (u : Tok) (l : Addr) (es : Array DictEntry) (n : Nat) (dd : Option Addr) (sl : Array (Option Value)) :
    Meets (Builtin.«str.__eq__» ⟨[.str b u, .ref l], []⟩) (fun _ R s => s.heap.get? l = some { cls := .type "dict", dict := dd, data := .dict es n, slots := sl } ∧ R (.ok (.ret .notImplemented)) s) :=
  .of_wp fun prog w A R s h => by obtain ⟨hp, g, d, tk, os⟩ := s; obtain ⟨hl, h⟩ := h; wp_walk using wpAny_loadPart' hl, wpAny_load hl; exact ⟨_, rfl, h⟩
theorem rcAt_str_dict {A : Around} {s : Shared} {l : Addr} {es : Array DictEntry} {n : Nat} {dd : Option Addr} {sl : Array (Option Value)} (b : Str) (u : Tok) (ho : s.heap.get? l = some { cls := .type "dict", dict := dd, data := .dict es n, slots := sl }) (hu : A.units < cLine) : RcAt A s (.str b u) (.ref l) false := fun prog w E Q h => by
  exact rc_eq_decline_or (k := false) (typeIs_str s b u) ⟨_, ho, rfl⟩ (by decide) F.sub_dict_str F.slot_str_eq F.slot_dict_eq_refl
    (fun _ hq => call_meets F.slot_str_eq (typeIs_str s b u) F.entry_str_eq (F.args_str_eq_2 _ _) (str_eq_declines_dict b u l es n dd sl) ⟨ho, hq⟩)
    (fun _ hq => call_meets F.slot_dict_eq_refl ⟨_, ho, rfl⟩ F.entry_dict_eq (F.args_dict_eq_2 _ _) (dict_eq_declines_str l es n dd sl b u) ⟨ho, hq⟩)
    (fun _ hq => wpAny_of_eq (rfl : isSame (.str b u) (.ref l) = pure false) hq) (.inr hu) h
theorem eqAt_str_dict {A : Around} {s : Shared} {l : Addr} {es : Array DictEntry} {n : Nat} {dd : Option Addr} {sl : Array (Option Value)} (b : Str) (u : Tok) (ho : s.heap.get? l = some { cls := .type "dict", dict := dd, data := .dict es n, slots := sl }) (hu : A.units < cLine) : SeqAt.EqAt A s (.str b u) (.ref l) false := fun prog w E Q h => by
  unfold eqBool
  refine wpAny_holding ?_
  refine wpAny_ite_split (fun hab => absurd (eq_of_beq hab) nofun) (fun _ => ?_)
  exact wpAny_bind (rcAt_str_dict b u ho hu prog w E _ (wpAny_truthy_bool h))
end eqd
/-! ### k54: first_alikes -/
/-- two values have one bit by all carries that come and all bits -/
def AgV (m : Nat) (ds : List Deed) (j v : Nat) : Prop := ∀ c, Rch m ds c → ∀ bs ∈ allB m, (bts ds c bs).getD j 0 = (bts ds c bs).getD v 0
theorem least_ex (p : Nat → Prop) : ∀ v, p v → ∃ j, j ≤ v ∧ p j ∧ ∀ i, i < j → ¬ p i := by
  intro v
  induction v using Nat.strongRecOn with
  | ind v ih =>
    intro hv
    by_cases h : ∃ i, i < v ∧ p i
    · obtain ⟨i, hi, pi⟩ := h
      obtain ⟨j, h1, h2, h3⟩ := ih i hi pi
      exact ⟨j, by omega, h2, h3⟩
    · exact ⟨v, Nat.le_refl _, hv, fun i hi pi => h ⟨i, hi, pi⟩⟩
noncomputable def frs (m : Nat) (ds : List Deed) (v : Nat) : Nat := Classical.choose (least_ex (fun j => AgV m ds j v) v fun _ _ _ _ => rfl)
theorem frs_spec (m : Nat) (ds : List Deed) (v : Nat) : frs m ds v ≤ v ∧ AgV m ds (frs m ds v) v ∧ ∀ i, i < frs m ds v → ¬ AgV m ds i v := Classical.choose_spec (least_ex (fun j => AgV m ds j v) v fun _ _ _ _ => rfl)
theorem frs_uniq {m : Nat} {ds : List Deed} {v j : Nat} (h1 : AgV m ds j v) (h2 : ∀ i, i < j → ¬ AgV m ds i v) : j = frs m ds v := by
  obtain ⟨a, b, c⟩ := frs_spec m ds v
  rcases Nat.lt_trichotomy j (frs m ds v) with h | h | h
  · exact absurd h1 (c j h)
  · exact h
  · exact absurd b (h2 _ h)
theorem few_of54 {n : Nat} {cs : List (List Int)} (nd : cs.Nodup) (hb : ∀ c ∈ cs, c.length = n ∧ ∀ x ∈ c, Bit x) (hn : n ≤ 8) : cs.length ≤ 256 := by
  have z := few_keys (α := Unit) (es := cs.map fun c => (c, ())) (by rw [List.map_map]; show (cs.map id).Nodup; rw [List.map_id]; exact nd) (fun e he => by
    obtain ⟨c, hc, rfl⟩ := List.mem_map.mp he
    exact hb c hc) hn
  rwa [List.length_map] at z
/-- the bits of all values, carry by carry -/
def btsA (m : Nat) (ds : List Deed) (cs : List (List Int)) : List (List Int) := cs.flatMap fun c => (allB m).map (bts ds c)
theorem btsA_len (m : Nat) (ds : List Deed) : ∀ cs : List (List Int), (btsA m ds cs).length = cs.length * 2 ^ m
  | [] => by show 0 = 0 * _; rw [Nat.zero_mul]
  | c :: cs => by
    have ih := btsA_len m ds cs
    unfold btsA at ih ⊢
    rw [List.flatMap_cons, List.length_append, ih, List.length_map, allB_len, List.length_cons, Nat.succ_mul]
    omega
def colI (l : List (List Int)) (j : Nat) : List Int := l.map fun b => b.getD j 0
theorem colI_eq {m : Nat} {ds : List Deed} {cs : List (List Int)} (hc : ∀ c, c ∈ cs ↔ Rch m ds c) (j v : Nat) : colI (btsA m ds cs) j = colI (btsA m ds cs) v ↔ AgV m ds j v := by
  unfold colI
  refine ⟨fun h c hr bs hb => ?_, fun h => List.map_congr_left fun b hb => ?_⟩
  · have hm : bts ds c bs ∈ btsA m ds cs := List.mem_flatMap.mpr ⟨c, (hc c).mpr hr, List.mem_map.mpr ⟨bs, hb, rfl⟩⟩
    exact List.map_inj_left.mp h _ hm
  · obtain ⟨c, hc1, hb1⟩ := List.mem_flatMap.mp hb
    obtain ⟨bs, hbs, rfl⟩ := List.mem_map.mp hb1
    exact h c ((hc c).mp hc1) bs hbs
theorem colR_int {l : List (List Int)} {n j : Nat} (hl : ∀ b ∈ l, b.length = n) (hj : j < n) : colR (l.map fun b => b.map V.int) j = (colI l j).map V.int := by
  unfold colR colI
  rw [List.map_map, List.map_map]
  refine List.map_congr_left fun b hb => ?_
  show (b.map V.int).getD j .non = V.int (b.getD j 0)
  rw [List.getD_eq_getElem?_getD, List.getD_eq_getElem?_getD, List.getElem?_map, List.getElem?_eq_getElem (by rw [hl b hb]; exact hj)]
  rfl
def spFa : Sp := fun vs H Q _ => ∃ (R : Addr) (m : Nat) (o : Int) (ds : List Deed), vs = [.ref R] ∧ RowAt H R m ds o ∧ RowOk m ds o ∧
  ∀ H' p, Same H H' → H p = none → H' p = some (.lst (((List.range (m + ds.length)).map fun v => ((frs m ds v : Nat) : Int)).map V.int)) → Q (.ref p) H'
set_option maxHeartbeats 4000000 in
theorem ok_fa {f fC fA fB : Addr} {fd fdC fdA fdB : FuncData} {k : Nat} (F : Fun K "first_alikes" "first_alikes" s_first_alikes f fd)
    (GC : FnOk P w K mg base CX0 (k + 5) fC fdC ["row"] spCa) (kC : PySem.W.keepIn K (.ref fC) = true) (bC : Binds K fdC ["row"] []) (gC : mg "carries" = some (.ref fC))
    (GA : FnOk P w K mg base CX0 (k + 1) fA fdA ["many"] spAll) (kA : PySem.W.keepIn K (.ref fA) = true) (bA : Binds K fdA ["many"] []) (gA : mg "all_bits" = some (.ref fA))
    (GB : FnOk P w K mg base CX0 (k + 2) fB fdB ["row", "carry", "bits"] spBo) (kB : PySem.W.keepIn K (.ref fB) = true) (bB : Binds K fdB ["row", "carry", "bits"] []) (gB : mg "bits_of" = some (.ref fB))
    (ml : mg "list" = none) (mz : mg "zip" = none) : FnOk P w K mg base CX0 (k + 6) f fd ["row"] spFa := by
  refine F.ok sc_first_alikes (fun vs H Q E h => ?_) (fun cdv A outer s H vs Q E hr h => ?_)
  · obtain ⟨R, m, o, ds, rfl, _⟩ := h
    rfl
  · obtain ⟨R, m, o, ds, rfl, hrow, ok, q⟩ := h
    obtain ⟨D, rs, eR, eD, hd⟩ := id hrow
    have r1 := hr.mono (show k + 1 ≤ k + 5 by omega)
    have r2 := hr.mono (show k + 2 ≤ k + 5 by omega)
    have hu65 := hu65_of hr
    have l8 := ok.len
    have m1 := ok.m1
    have m3 := ok.m3
    refine ⟨_, pss_cons (ps_setLc2 (i := 1) (own := [("carry", 3), ("bits", 4)]) (vs1 := [4]) (g := gName 3) (g1 := gName 4) (wi1 := iList K _) (by rfl) sc_first_alikes.nd rfl rfl (sw_true rfl rfl rfl (by decide +kernel)) (pi_list (pe_call GC hr (by rfl) gC kC bC .nil pass0 (pa_cons (pv 0) pa_nil))) (blkOk_by (own := [("carry", 3), ("bits", 4)]) (N := N_first_alikes) (sc := defScope s_first_alikes) (by decide +kernel)) (by decide)
        (fun _ _ _ _ _ => pg_name (i := 3) sc_first_alikes.nd rfl (Or.inl rfl)) (fun _ _ _ _ _ => pts_nil) (fun _ _ _ _ _ => pi_list (pe_call GA r1 (by rfl) gA kA bA .nil pass0 (pa_cons (pe_ix (r := rIxT K) ix_tup (pv 0) pe_int (fun _ _ => rfl)) pa_nil)))
        (fun _ _ _ _ _ => pg_name (i := 4) sc_first_alikes.nd rfl (Or.inl rfl)) (fun _ _ _ _ _ => pts_nil) (fun _ _ _ _ _ => (pe_call GB r2 (by rfl) gB kB bB .nil pass0 (pa_cons (pv 0) (pa_cons (pv 3) (pa_cons (pv 4) pa_nil))))))
      (pss_cons (ps_set (i := 2) sc_first_alikes.nd rfl (.inr rfl) (pe_listZipS (by rfl) (by rfl) ml (by rfl) mz (pv 1)))
      (pss_one (ps_ret (pe_lc (te := tBM K "list" (rIndexD K) (tVar 2) (tCons (tVar 5) tNil)) (own := [("look", 5)]) (g := gName 5) (by rfl) sc_first_alikes.nd (pi_list (pv 2)) (blkOk_by (own := [("look", 5)]) (N := N_first_alikes) (sc := defScope s_first_alikes) (by decide +kernel)) (fun _ _ _ _ _ => (pg_name (i := 5) sc_first_alikes.nd rfl (.inl rfl))) (fun _ _ _ _ _ => pts_nil)
        (fun _ _ _ _ _ => (pe_bm PySem.F.plainAttrs_list PySem.F.slot_list_index PySem.F.type_list_index (mt_indexD hu65) (pv 2) (pa_cons (pv 5) pa_nil))))))), ?_⟩
    refine ⟨.ref R, rfl, R, m, o, ds, rfl, hrow, ok, by omega, by omega, fun H1 p L s1 np ep tl nd mem pw => ?_⟩
    have shp : ∀ c ∈ snd2 L, c.length = ds.length ∧ ∀ x ∈ c, Bit x := fun c hc => ⟨(rch_shp ((mem c).mp hc)).len, (rch_shp ((mem c).mp hc)).bits⟩
    have few := few_of54 nd shp l8
    have sl : (snd2 L).length = L.length := List.length_map ..
    have p8 : 2 ^ m ≤ 8 := Nat.le_trans (Nat.pow_le_pow_right (by decide) (show m ≤ 3 by omega)) (by decide)
    have pp : 0 < 2 ^ m := Nat.pow_pos (by decide)
    have fewA : ∀ n, n ≤ 256 → n * 2 ^ m ≤ 2048 := fun n hn => Nat.le_trans (Nat.mul_le_mul hn p8) (by decide)
    refine ⟨p, rfl, ⟨_, .inl (.inl ep)⟩, fun M hM => ?_⟩
    refine walk_gen (walk_list (K := K) (a := p) (xs := L.map fun q : Addr × List Int => V.ref q.1)) (fun i H4 => ∃ gs, H4 M = some (.lst (gs.map V.ref)) ∧ TAt H4 gs (btsA m ds ((snd2 L).take i)) ∧ Same H1 H4) ⟨[], upd_same, by rw [List.take_zero]; exact .nil, same_new hM⟩ (fun i H4 _ hp => ?_) (fun i x H4 H5 hi hp hy => ?_) (fun H4 hp => ?_)
    · obtain ⟨_, _, _, s4⟩ := hp
      exact .inl (.inl (s4 _ _ ep))
    · obtain ⟨gs, eM, hg, s4⟩ := hp
      obtain ⟨rfl, hx⟩ := hy
      have hi2 : i < L.length := by rwa [List.length_map] at hi
      obtain ⟨qc, hq⟩ : ∃ qc, L[i]? = some qc := ⟨_, List.getElem?_eq_getElem hi2⟩
      obtain rfl : x = .ref qc.1 := by
        rw [List.getElem?_map, hq] at hx
        exact (Option.some.inj hx).symm
      have hcs : (snd2 L)[i]? = some qc.2 := by
        show (L.map (·.2))[i]? = _
        rw [List.getElem?_map, hq]
        rfl
      have cm := List.mem_of_getElem? hcs
      obtain ⟨cl, cb⟩ := shp _ cm
      have ec : H1 qc.1 = some (.tup (qc.2.map V.int)) := tl qc (List.mem_of_getElem? hq)
      have s04 := s1.trans s4
      refine ⟨rfl, .ref R, rfl, R, _, 0, .int (m : Int), rfl, rfl, SqT.of (s04 _ _ eR), rfl, m, rfl, by omega, fun H6 Bl fs s6 nB eB hfs => ?_⟩
      have fl : fs.length = 2 ^ m := by rw [awLen hfs, allB_len]
      have nBM : Bl ≠ M := fun z => by rw [z, eM] at nB; cases nB
      refine ⟨Bl, rfl, ⟨_, .inl (.inl eB)⟩, ?_⟩
      refine walk_gen (walk_list (K := K) (a := Bl) (xs := fs.map V.ref)) (fun t H7 => ∃ gs, H7 M = some (.lst (gs.map V.ref)) ∧ TAt H7 gs (btsA m ds ((snd2 L).take i) ++ ((allB m).take t).map (bts ds qc.2)) ∧ ∀ b u, b ≠ M → H6 b = some u → H7 b = some u) ⟨gs, s6 _ _ eM, by rw [List.take_zero, List.map_nil, List.append_nil]; exact tat_stay (Same.tups s6) hg, fun _ _ _ e => e⟩ (fun t H7 _ hp => ?_) (fun t x H7 H8 ht hp hy => ?_) (fun H7 hp => ?_)
      · obtain ⟨_, _, _, st⟩ := hp
        exact .inl (.inl (st _ _ nBM eB))
      · obtain ⟨gs, eM7, hg7, st⟩ := hp
        obtain ⟨rfl, hx⟩ := hy
        have ht2 : t < fs.length := by rwa [List.length_map] at ht
        obtain ⟨b, hb⟩ : ∃ b, fs[t]? = some b := ⟨_, List.getElem?_eq_getElem ht2⟩
        obtain rfl : x = .ref b := by
          rw [List.getElem?_map, hb] at hx
          exact (Option.some.inj hx).symm
        obtain ⟨bs, hbs, eb⟩ := awGet hfs hb
        obtain ⟨bl, bb⟩ := allB_ok m bs (List.mem_of_getElem? hbs)
        have s07 : Same H H8 := fun b u e => st _ _ (ne_of_none (s1 _ _ e) hM) (s6 _ _ (s04 _ _ e))
        have tup7 : ∀ b xs, H6 b = some (.tup xs) → H8 b = some (.tup xs) := fun b xs e => st _ _ (ne_of e (s6 _ _ eM) (fun y => nomatch y)) e
        refine ⟨rfl, .ref R, rfl, .ref qc.1, rfl, .ref b, rfl, R, qc.1, b, m, o, ds, qc.2, bs, rfl, (Same.tups s07).row hrow, ok.deeds, by omega, tup7 _ _ (s6 _ _ (s4 _ _ ec)), cl, tup7 _ _ eb, by rw [bl], by omega, fun H9 p9 s9 np9 ep9 => ?_⟩
        have eM9 := s9 _ _ eM7
        have gl := awLen hg7
        rw [List.length_append, btsA_len, List.length_map, List.length_take, List.length_take, allB_len] at gl
        have := fewA (min i (snd2 L).length) (by omega)
        have tF := tups_put (o := .lst (gs.map V.ref ++ [V.ref p9])) eM9
        refine ⟨_, eM9, by rw [List.length_map, sizeLine_eq]; omega, gs ++ [p9], by rw [upd_same, List.map_append]; rfl, ?_, fun b u n1 e => ?_⟩
        · rw [List.take_add_one, hbs, List.map_append, ← List.append_assoc]
          exact tat_stay tF (awSnoc (F := fun (f : Addr) (b : List Int) => H9 f = some (.tup (b.map V.int))) ep9 (tat_stay (Same.tups s9) hg7))
        · rw [upd_ne n1]
          exact s9 _ _ (st b u n1 e)
      · obtain ⟨gs, eM7, hg7, st⟩ := hp
        rw [List.length_map, fl, ← allB_len m, List.take_length] at hg7
        refine ⟨gs, eM7, ?_, fun b u e => st _ _ (ne_of_none e hM) (s6 _ _ (s4 _ _ e))⟩
        rw [List.take_add_one, hcs]
        unfold btsA at hg7 ⊢
        rw [List.flatMap_append]
        simpa using hg7
    · obtain ⟨gs, eM, hg, s4⟩ := hp
      rw [List.length_map, ← sl, List.take_length] at hg
      have s04 := s1.trans s4
      have gl := awLen hg
      rw [btsA_len] at gl
      have hlen : ∀ b ∈ btsA m ds (snd2 L), b.length = m + ds.length := fun b hb => by
        obtain ⟨c, hc, hb1⟩ := List.mem_flatMap.mp hb
        obtain ⟨bs, hbs, rfl⟩ := List.mem_map.mp hb1
        rw [bts_len (shp c hc).1.symm, (allB_ok m bs hbs).1]
      have lpos : 0 < (snd2 L).length := List.length_pos_of_mem ((mem _).mpr .first)
      have := fewA (snd2 L).length few
      have gpos : 0 < gs.length := by
        rw [gl]
        exact Nat.mul_pos lpos pp
      refine ⟨.ref M, rfl, M, gs, (btsA m ds (snd2 L)).map fun b => b.map V.int, m + ds.length, rfl, .inl (.inl eM), ?_, (fun z => by rw [z] at gpos; exact absurd gpos (by decide)), by omega, by omega, by omega, fun H5 Lk ts s5 nLk eLk tsl cols => ?_⟩
      · have key : ∀ (gs : List Addr) (l : List (List Int)), TAt H4 gs l → (∀ b ∈ l, b.length = m + ds.length) → Paired (fun g r => H4 g = some (.tup r) ∧ r.length = m + ds.length) gs (l.map fun b => b.map V.int) := by
          intro gs l h
          induction h with
          | nil => intro _; exact .nil
          | cons h t ih => intro hl; exact .cons ⟨h, by rw [List.length_map]; exact hl _ List.mem_cons_self⟩ (ih fun b hb => hl b (List.mem_cons_of_mem _ hb))
        exact key gs _ hg hlen
      · have cols' : ∀ (j : Nat) t, ts[j]? = some t → H5 t = some (.tup ((colI (btsA m ds (snd2 L)) j).map V.int)) := fun j t hj => by
          have jl := (List.getElem?_eq_some_iff.mp hj).1
          rw [← colR_int hlen (by omega)]
          exact cols j t hj
        have hts : TAt H5 ts ((List.range (m + ds.length)).map (colI (btsA m ds (snd2 L)))) := by
          refine zs_paired (by rw [List.length_map, List.length_range, tsl]) fun j x y hx hy => ?_
          have jl := (List.getElem?_eq_some_iff.mp hx).1
          rw [List.getElem?_map, List.getElem?_range (by omega)] at hy
          rw [← Option.some.inj hy]
          exact cols' j x hx
        have s05 := s04.trans s5
        refine ⟨.ref Lk, rfl, Lk, rfl, ⟨_, .inl (.inl eLk)⟩, fun C hC => ?_⟩
        have nLC : Lk ≠ C := ne_of_none eLk hC
        refine lc_list (K := K) (a := Lk) (xs := ts.map V.ref) (fun i H6 => H6 C = some (.lst (((List.range i).map fun v => ((frs m ds v : Nat) : Int)).map V.int)) ∧ ∀ b u, b ≠ C → H5 b = some u → H6 b = some u) ⟨upd_same, fun b u nb e => by rw [upd_ne nb]; exact e⟩ (fun i H6 _ hp => .inl (.inl (hp.2 _ _ nLC eLk))) (fun i x H6 hx hp => ?_) (fun H6 hp => ?_)
        · obtain ⟨eC, st⟩ := hp
          have il : i < ts.length := by
            have := (List.getElem?_eq_some_iff.mp hx).1
            rwa [List.length_map] at this
          rw [List.getElem?_map] at hx
          obtain ⟨t, ht, rfl⟩ := Option.map_eq_some_iff.mp hx
          have t6 : TupsStay H5 H6 := fun b xs e => st _ _ (ne_of_none e hC) e
          obtain ⟨f1, f2, f3⟩ := frs_spec m ds i
          have gt : ∀ j, j < m + ds.length → (((List.range (m + ds.length)).map (colI (btsA m ds (snd2 L)))).map cD)[j]? = some (cD (colI (btsA m ds (snd2 L)) j)) := fun j hj => by
            rw [List.getElem?_map, List.getElem?_map, List.getElem?_range hj]
            rfl
          refine ⟨rfl, .ref Lk, rfl, .inl ⟨rfl, _, .inl (.inl (st _ _ nLC eLk))⟩, .ref t, rfl, Lk, .ref t, cD (colI (btsA m ds (snd2 L)) i), ((List.range (m + ds.length)).map (colI (btsA m ds (snd2 L)))).map cD, frs m ds i, cD (colI (btsA m ds (snd2 L)) (frs m ds i)), rfl, rfl, .lst (.inl (.inl (st _ _ nLC eLk))) (dp_cDs (tat_stay t6 hts)), dp_cD (t6 _ _ (cols' i t ht)), shaped_cDs _, shaped_cD _, gt _ (by omega), ?_, fun j z hj hz => ?_, ?_⟩
          · rw [eqv_cD]
            exact decide_eq_true ((colI_eq mem _ _).mpr f2)
          · rw [gt j (by omega)] at hz
            rw [← Option.some.inj hz, eqv_cD]
            exact decide_eq_false fun e => f3 j hj ((colI_eq mem _ _).mp e)
          · refine ⟨_, eC, ?_, ?_, fun b u nb e => ?_⟩
            · rw [List.length_map, List.length_map, List.length_range]
              exact small1000 (by omega)
            · rw [upd_same, List.range_succ, List.map_append, List.map_append]
              rfl
            · rw [upd_ne nb]
              exact st b u nb e
        · obtain ⟨eC, st⟩ := hp
          rw [List.length_map, tsl] at eC
          exact q H6 C (fun b u e => st _ _ (ne_of_none (s05 _ _ e) hC) (s05 _ _ e)) (s05.free hC) eC
/-! ### k54: is_had, fitting -/
def hadB (ds : List Deed) (o v : Int) : Bool := decide (v = o) || ds.any fun d => decide (v ∈ d.2)
theorem inI (v : Int) : ∀ l : List Int, inV (.int v) (l.map V.int) = decide (v ∈ l)
  | [] => rfl
  | y :: l => by
    have ih := inI v l
    show (eqV (.int y) (.int v) || inV (.int v) (l.map V.int)) = _
    rw [ih]
    by_cases h : v = y
    · subst h
      have : eqV (V.int v) (V.int v) = true := by simp [eqV]
      rw [this]
      simp
    · have : eqV (V.int y) (V.int v) = false := by simp [eqV]; exact fun z => h z.symm
      rw [this]
      simp [h]
theorem flat_ints : ∀ l : List Int, (l.map V.int).all flatV = true
  | [] => rfl
  | _ :: l => by
    rw [List.map_cons, List.all_cons, flat_ints l]
    rfl
def spHd : Sp := fun vs H Q _ => ∃ (R : Addr) (m o v : Int) (ds : List Deed), vs = [.ref R, .int v] ∧ RowAt H R m ds o ∧ ds.length ≤ 100 ∧ ∀ H', Same H H' → Q (.bl (hadB ds o v)) H'
theorem ok_hd {f : Addr} {fd : FuncData} {k : Nat} (F : Fun K "is_had" "is_had" s_is_had f fd) (mA : mg "any" = none) : FnOk P w K mg base CX0 (k + 1) f fd ["row", "value"] spHd := by
  refine F.ok sc_is_had (fun vs H Q E h => ?_) (fun cdv A outer s H vs Q E hr h => ?_)
  · obtain ⟨R, m, o, v, ds, rfl, _⟩ := h
    rfl
  · obtain ⟨R, m, o, v, ds, rfl, hrow, l100, q⟩ := h
    obtain ⟨D, rs, eR, eD, hd⟩ := id hrow
    refine ⟨_, pss_one (ps_ret (pe_or (pe_cmpR op_eq (pv 1) (pe_ix ix_tup (pv 0) pe_int (fun _ _ => rfl)) (nomark _)) (pe_one (pe_callB (cr_any rfl) (by rfl) mA (by decide +kernel) (pa_cons
      (pe_lc (own := [("deed", 2)]) (g := gName 2) (by rfl) sc_is_had.nd (pi_tup (pe_ix ix_tup (pv 0) pe_int (fun _ _ => rfl))) (blkOk_by (own := [("deed", 2)]) (N := N_is_had) (sc := defScope s_is_had) (by decide +kernel))
        (fun _ _ _ _ _ => pg_name (i := 2) sc_is_had.nd rfl (Or.inl rfl)) (fun _ _ _ _ _ => pts_nil) (fun _ _ _ _ _ => pe_cmpR (r := rIn K false) op_in_seq (pv 1) (pe_slice (r := rSlT K) sl_tup (pv 2) (po_some pe_int) po_none) (by rfl))) pa_nil))))), ?_⟩
    unfold hadB at q
    refine ⟨.int v, rfl, .ref R, rfl, R, _, 2, .int o, rfl, rfl, SqT.of eR, rfl, rfl, _, rfl, ite2 (fun e => ?_) (fun e => ?_)⟩
    · have e' : v = o := V.int.inj (of_decide_eq_true e)
      rw [decide_eq_true e', Bool.true_or] at q
      exact q H (Same.refl H)
    have e' : ¬ v = o := fun z => e (decide_eq_true (congrArg V.int z))
    rw [decide_eq_false e', Bool.false_or] at q
    refine ⟨.ref R, rfl, R, _, 1, .ref D, rfl, rfl, SqT.of eR, rfl, D, rfl, ⟨_, SqT.of eD⟩, fun C hC => ?_⟩
    have rl := awLen hd
    refine lc_tup (K := K) (a := D) (xs := rs.map V.ref) (fun j H4 => H4 C = some (.lst (((ds.take j).map fun d => decide (v ∈ d.2)).map V.bl)) ∧ Same H H4) ⟨upd_same, same_new hC⟩ (fun j H4 _ hp => SqT.of (hp.2 _ _ eD)) (fun j x H4 hx hp => ?_) (fun H4 hp => ?_)
    · obtain ⟨eC, s4⟩ := hp
      rw [List.getElem?_map] at hx
      obtain ⟨r, hr', rfl⟩ := Option.map_eq_some_iff.mp hx
      obtain ⟨d, hd1, hd2⟩ := awGet hd hr'
      refine ⟨rfl, .int v, rfl, .ref r, rfl, 1, rfl, r, dV d, rfl, SqT.of (s4 _ _ hd2), notWhole _ _, fun T hT => ?_⟩
      have eT : cutV (dV d) (some 1) none = d.2.map V.int := cutTail _ _
      rw [eT]
      have sT := same_new (o := .tup (d.2.map V.int)) hT
      refine ⟨T, d.2.map V.int, rfl, .inr (SqT.of upd_same), rfl, flat_ints _, ?_⟩
      have eCT := sT _ _ eC
      refine ⟨_, eCT, ?_, ?_, fun b u e => ?_⟩
      · rw [List.length_map, List.length_map, List.length_take]
        exact small1000 (by omega)
      · rw [upd_same, List.take_add_one, hd1, List.map_append, List.map_append]
        show some (HO.lst (_ ++ [V.bl (if false = true then !inV (V.int v) (d.2.map V.int) else inV (V.int v) (d.2.map V.int))])) = some (HO.lst (_ ++ [V.bl (decide (v ∈ d.2))]))
        rw [if_neg Bool.false_ne_true, inI]
      · rw [upd_ne (ne_of_none e hC)]
        exact sT _ _ (s4 b u e)
    · obtain ⟨eC, s4⟩ := hp
      rw [List.length_map, rl, List.take_length] at eC
      refine ⟨C, _, rfl, .inl (.inl eC), ?_⟩
      rw [List.any_map]
      exact q H4 s4
noncomputable def fitL (m : Nat) (ds : List Deed) (o : Int) : List (Str × Int) :=
  ((List.range ds.length).filter fun i => !hadB ds o ((m + i : Nat) : Int)).map (fun i => ((("drop" : Str), ((m + i : Nat) : Int)) : Str × Int)) ++ ((List.range ds.length).filter fun i => hadB ds o ((m + i : Nat) : Int) && !decide (frs m ds (m + i) = m + i)).map fun i => ((("same" : Str), ((m + i : Nat) : Int)) : Str × Int)
abbrev FtAt (H : Hp) : List Addr → List (Str × Int) → Prop := Paired fun t e => H t = some (.tup [.str e.1, .int e.2])
theorem ft_stay {H H' : Hp} (t : TupsStay H H') {qs : List Addr} {l : List (Str × Int)} (h : FtAt H qs l) : FtAt H' qs l := awMap (fun _ _ e => t _ _ e) h
theorem ft_app {α β : Type} {F : α → β → Prop} : ∀ {l : List α} {k : List β} {l' : List α} {k' : List β}, Paired F l k → Paired F l' k' → Paired F (l ++ l') (k ++ k')
  | _, _, _, _, .nil, h => h
  | _, _, _, _, .cons a t, h => .cons a (ft_app t h)
theorem fil1 {p : Nat → Bool} {i : Nat} (h : p i = true) : [i].filter p = [i] := by
  rw [List.filter_cons, if_pos h]
  rfl
theorem fil0 {p : Nat → Bool} {i : Nat} (h : p i = false) : [i].filter p = [] := by
  rw [List.filter_cons, if_neg (by rw [h]; exact Bool.false_ne_true)]
  rfl
def spFi : Sp := fun vs H Q _ => ∃ (R : Addr) (m : Nat) (o : Int) (ds : List Deed), vs = [.ref R] ∧ RowAt H R m ds o ∧ RowOk m ds o ∧
  ∀ H' p ts, Same H H' → H p = none → H' p = some (.lst (ts.map V.ref)) → FtAt H' ts (fitL m ds o) → Q (.ref p) H'
set_option maxHeartbeats 4000000 in
theorem ok_fi {f fA fH : Addr} {fd fdA fdH : FuncData} {k : Nat} (F : Fun K "fitting" "fitting" s_fitting f fd)
    (GA : FnOk P w K mg base CX0 (k + 6) fA fdA ["row"] spFa) (kA : PySem.W.keepIn K (.ref fA) = true) (bA : Binds K fdA ["row"] []) (gA : mg "first_alikes" = some (.ref fA))
    (GH : FnOk P w K mg base CX0 (k + 1) fH fdH ["row", "value"] spHd) (kH : PySem.W.keepIn K (.ref fH) = true) (bH : Binds K fdH ["row", "value"] []) (gH : mg "is_had" = some (.ref fH))
    (mr : mg "range" = none) (mn : mg "len" = none) : FnOk P w K mg base CX0 (k + 7) f fd ["row"] spFi := by
  refine F.ok sc_fitting (fun vs H Q E h => ?_) (fun cdv A outer s H vs Q E hr h => ?_)
  · obtain ⟨R, m, o, ds, rfl, _⟩ := h
    rfl
  · obtain ⟨R, m, o, ds, rfl, hrow, ok, q⟩ := h
    obtain ⟨D, rs, eR, eD, hd⟩ := id hrow
    have r1 := hr.mono (show k + 1 ≤ k + 6 by omega)
    have l8 := ok.len
    have m1 := ok.m1
    have m3 := ok.m3
    have rl := awLen hd
    refine ⟨_, pss_cons (ps_set (i := 1) sc_fitting.nd rfl (.inl rfl) (pe_call GA hr (by rfl) gA kA bA .nil pass0 (pa_cons (pv 0) pa_nil)))
    (pss_cons (ps_par (by rfl) sc_fitting.nd (i := 2) (j := 3) rfl rfl (by decide) rfl rfl (pa_cons (pe_lst pa_nil) (pa_cons (pe_lst pa_nil) pa_nil)) (by rfl))
    (pss_cons (ps_for PassesOwn.never rfl (pi_range2 (by rfl) mr (pa_cons (pe_ix ix_tup (pv 0) pe_int (fun _ _ => rfl)) (pa_cons (pe_op op_add (pe_ix ix_tup (pv 0) pe_int (fun _ _ => rfl)) (pe_callB call_len_seq (by rfl) mn PySem.boot_len (pa_cons (pe_ix ix_tup (pv 0) pe_int (fun _ _ => rfl)) pa_nil))) pa_nil))) (pg_name (i := 4) sc_fitting.nd rfl (.inl rfl))
    (pss_one (ps_if (pt_not (pt_val (pe_call GH r1 (by rfl) gH kH bH .nil pass0 (pa_cons (pv 0) (pa_cons (pv 4) pa_nil)))))
    (pss_one (ps_expr (pe_bm PySem.F.plainAttrs_list PySem.F.slot_list_append PySem.F.type_list_append mt_append (pv 2) (pa_cons (pe_tup (pa_cons pe_str (pa_cons (pv 4) pa_nil))) pa_nil))))
    (pss_one (ps_if (pt_cmpR op_ne (pe_ix ix_list (pv 1) (pv 4) (fun _ _ => rfl)) (pv 4) (nomark _))
    (pss_one (ps_expr (pe_bm PySem.F.plainAttrs_list PySem.F.slot_list_append PySem.F.type_list_append mt_append (pv 3) (pa_cons (pe_tup (pa_cons pe_str (pa_cons (pv 4) pa_nil))) pa_nil))))
    pss_nil)))))
    (pss_one (ps_ret (pe_op op_cat (pv 2) (pv 3)))))), ?_⟩
    refine ⟨.ref R, rfl, R, m, o, ds, rfl, hrow, ok, fun H1 Fi s1 nFi eFi => ?_⟩
    refine ⟨(by show 0 ≤ sizeLine; decide), fun Dr hDr => ⟨(by show 0 ≤ sizeLine; decide), fun Sa hSa => ?_⟩⟩
    have sD := same_new (o := .lst []) hDr
    have sS := same_new (o := .lst []) hSa
    have nDS : Dr ≠ Sa := fun z => by rw [← z, upd_same] at hSa; cases hSa
    have s1S := sD.trans sS
    have s0S := s1.trans s1S
    have eR' := s0S _ _ eR
    refine ⟨_, _, rfl, ?_⟩
    refine ⟨.ref R, rfl, R, _, 0, .int (m : Int), rfl, rfl, SqT.of eR', rfl, .ref R, rfl, R, _, 0, .int (m : Int), rfl, rfl, SqT.of eR', rfl, .ref R, rfl, R, _, 1, .ref D, rfl, rfl, SqT.of eR', rfl, D, _, rfl, .inr (SqT.of (s0S _ _ eD)), (m : Int), _, rfl, rfl, (m : Int), (m : Int) + ((rs.map V.ref).length : Int), rfl, ?_, ?_⟩
    · rw [List.length_map, rl]
      omega
    have en : ((m : Int) + ((rs.map V.ref).length : Int) - (m : Int)).toNat = ds.length := by
      rw [List.length_map, rl]
      omega
    refine for_range (lo := (m : Int)) (n := ((m : Int) + ((rs.map V.ref).length : Int) - (m : Int)).toNat) (fun i σ H4 => ∃ (y4 : Option V) (ts us : List Addr), σ = [some (.ref R), some (.ref Fi), some (.ref Dr), some (.ref Sa), y4] ∧ H4 Dr = some (.lst (ts.map V.ref)) ∧ H4 Sa = some (.lst (us.map V.ref)) ∧
        FtAt H4 ts (((List.range i).filter fun i => !hadB ds o ((m + i : Nat) : Int)).map fun i => ((("drop" : Str), ((m + i : Nat) : Int)) : Str × Int)) ∧ FtAt H4 us (((List.range i).filter fun i => hadB ds o ((m + i : Nat) : Int) && !decide (frs m ds (m + i) = m + i)).map fun i => ((("same" : Str), ((m + i : Nat) : Int)) : Str × Int)) ∧ ts.length ≤ i ∧ us.length ≤ i ∧ ∀ b u, H1 b = some u → H4 b = some u)
      ⟨none, [], [], rfl, sS _ _ upd_same, upd_same, .nil, .nil, Nat.zero_le _, Nat.zero_le _, s1S⟩ (fun i σ H4 hi hp => ?_) (fun σ H4 hp => ?_)
    · obtain ⟨y4, ts, us, rfl, eDr, eSa, hts, hus, tl, ul, s4⟩ := hp
      rw [en] at hi
      have ev : (m : Int) + (i : Int) = ((m + i : Nat) : Int) := by omega
      rw [ev]
      have s04 := s1.trans (show Same H1 H4 from s4)
      have rs1 : List.range (i + 1) = List.range i ++ [i] := List.range_succ
      refine ⟨.ref R, rfl, .int ((m + i : Nat) : Int), rfl, R, (m : Int), o, ((m + i : Nat) : Int), ds, rfl, (Same.tups s04).row hrow, by omega, fun H5 s5 => ?_⟩
      have eDr5 := s5 _ _ eDr
      have eSa5 := s5 _ _ eSa
      have hts5 := ft_stay (Same.tups s5) hts
      have hus5 := ft_stay (Same.tups s5) hus
      have s45 : ∀ b u, H1 b = some u → H5 b = some u := fun b u e => s5 _ _ (s4 b u e)
      refine ⟨_, rfl, ?_⟩
      cases hb : hadB ds o ((m + i : Nat) : Int) with
      | false =>
        refine iteT ?_
        refine ⟨.ref Dr, rfl, .inl ⟨rfl, _, .inl (.inl eDr5)⟩, .int ((m + i : Nat) : Int), rfl, (by show 2 ≤ sizeLine; decide), fun T hT => ?_⟩
        have sT := same_new (o := .tup [.str "drop", .int ((m + i : Nat) : Int)]) hT
        have eDT := sT _ _ eDr5
        have eST := sT _ _ eSa5
        have tF := tups_put (o := .lst (ts.map V.ref ++ [V.ref T])) eDT
        refine ⟨Dr, _, _, rfl, rfl, eDT, by rw [List.length_map]; exact small1000 (by omega), ?_⟩
        refine ⟨_, ts ++ [T], us, rfl, by rw [upd_same, List.map_append]; rfl, by rw [upd_ne nDS.symm]; exact eST, ?_, ?_, by rw [List.length_append]; show ts.length + 1 ≤ _; omega, by omega, fun b u e => ?_⟩
        · rw [rs1, List.filter_append, List.map_append]
          have e1 : [i].filter (fun i => !hadB ds o ((m + i : Nat) : Int)) = [i] := fil1 (by show (!hadB ds o ((m + i : Nat) : Int)) = true; rw [hb]; rfl)
          rw [e1]
          exact ft_stay tF (awSnoc (F := fun (t : Addr) (e : Str × Int) => (upd H5 T (.tup [.str "drop", .int ((m + i : Nat) : Int)])) t = some (.tup [.str e.1, .int e.2])) (x := T) (y := ((("drop" : Str), ((m + i : Nat) : Int)) : Str × Int)) upd_same (ft_stay (Same.tups sT) hts5))
        · rw [rs1, List.filter_append]
          have e1 : [i].filter (fun i => hadB ds o ((m + i : Nat) : Int) && !decide (frs m ds (m + i) = m + i)) = [] := fil0 (by show (hadB ds o ((m + i : Nat) : Int) && _) = false; rw [hb]; rfl)
          rw [e1, List.append_nil]
          exact ft_stay tF (ft_stay (Same.tups sT) hus5)
        · rw [upd_ne (ne_of_none e hDr)]
          exact sT _ _ (s45 b u e)
      | true =>
        refine iteF ?_
        have eFi5 := s45 _ _ eFi
        refine ⟨.ref Fi, rfl, .int ((m + i : Nat) : Int), rfl, Fi, _, ((m + i : Nat) : Int), .int ((frs m ds (m + i) : Nat) : Int), rfl, rfl, .inl (.inl eFi5), atI_nat ?_, .int ((m + i : Nat) : Int), rfl, rfl, _, rfl, ite2 (fun e => ?_) (fun e => ?_)⟩
        · rw [List.getElem?_map, List.getElem?_map, List.getElem?_range (by omega)]
          rfl
        · have ne : ¬ frs m ds (m + i) = m + i := fun z => by rw [z] at e; simp at e
          refine ⟨.ref Sa, rfl, .inl ⟨rfl, _, .inl (.inl eSa5)⟩, .int ((m + i : Nat) : Int), rfl, (by show 2 ≤ sizeLine; decide), fun T hT => ?_⟩
          have sT := same_new (o := .tup [.str "same", .int ((m + i : Nat) : Int)]) hT
          have eDT := sT _ _ eDr5
          have eST := sT _ _ eSa5
          have tF := tups_put (o := .lst (us.map V.ref ++ [V.ref T])) eST
          refine ⟨Sa, _, _, rfl, rfl, eST, by rw [List.length_map]; exact small1000 (by omega), ?_⟩
          refine ⟨_, ts, us ++ [T], rfl, by rw [upd_ne nDS]; exact eDT, by rw [upd_same, List.map_append]; rfl, ?_, ?_, by omega, by rw [List.length_append]; show us.length + 1 ≤ _; omega, fun b u e => ?_⟩
          · rw [rs1, List.filter_append]
            have e1 : [i].filter (fun i => !hadB ds o ((m + i : Nat) : Int)) = [] := fil0 (by show (!hadB ds o ((m + i : Nat) : Int)) = false; rw [hb]; rfl)
            rw [e1, List.append_nil]
            exact ft_stay tF (ft_stay (Same.tups sT) hts5)
          · rw [rs1, List.filter_append, List.map_append]
            have e1 : [i].filter (fun i => hadB ds o ((m + i : Nat) : Int) && !decide (frs m ds (m + i) = m + i)) = [i] := fil1 (by show (hadB ds o ((m + i : Nat) : Int) && !decide (frs m ds (m + i) = m + i)) = true; rw [hb, decide_eq_false ne]; rfl)
            rw [e1]
            exact ft_stay tF (awSnoc (F := fun (t : Addr) (e : Str × Int) => (upd H5 T (.tup [.str "same", .int ((m + i : Nat) : Int)])) t = some (.tup [.str e.1, .int e.2])) (x := T) (y := ((("same" : Str), ((m + i : Nat) : Int)) : Str × Int)) upd_same (ft_stay (Same.tups sT) hus5))
          · rw [upd_ne (ne_of_none e (sD.free hSa))]
            exact sT _ _ (s45 b u e)
        · have eq : frs m ds (m + i) = m + i := by
            false_or_by_contra
            rename_i z
            exact e (by simp; omega)
          refine ⟨_, ts, us, rfl, eDr5, eSa5, ?_, ?_, by omega, by omega, s45⟩
          · rw [rs1, List.filter_append]
            have e1 : [i].filter (fun i => !hadB ds o ((m + i : Nat) : Int)) = [] := fil0 (by show (!hadB ds o ((m + i : Nat) : Int)) = false; rw [hb]; rfl)
            rw [e1, List.append_nil]
            exact hts5
          · rw [rs1, List.filter_append]
            have e1 : [i].filter (fun i => hadB ds o ((m + i : Nat) : Int) && !decide (frs m ds (m + i) = m + i)) = [] := fil0 (by show (hadB ds o ((m + i : Nat) : Int) && !decide (frs m ds (m + i) = m + i)) = false; rw [hb, decide_eq_true eq]; rfl)
            rw [e1, List.append_nil]
            exact hus5
    · obtain ⟨y4, ts, us, rfl, eDr, eSa, hts, hus, tl, ul, s4⟩ := hp
      rw [en] at hts hus tl ul
      refine ⟨.ref Dr, rfl, .ref Sa, rfl, Dr, Sa, _, _, rfl, rfl, eDr, eSa, by rw [List.length_map, List.length_map, sizeLine_eq]; omega, fun Z hZ => ?_⟩
      have sZ := same_new (o := .lst (ts.map V.ref ++ us.map V.ref)) hZ
      have s04 := s1.trans (show Same H1 H4 from s4)
      refine q _ Z (ts ++ us) (s04.trans sZ) (s04.free hZ) (by rw [upd_same, List.map_append]) ?_
      unfold fitL
      exact ft_app (ft_stay (Same.tups sZ) hts) (ft_stay (Same.tups sZ) hus)
/-! ### k54: dropped, brought_back, put_by -/
/-- the numbers of values when one is gone -/
def nuD (n : Nat) (v : Int) : List Int := (List.range n).map fun (j : Nat) => if (j : Int) > v then (j : Int) - 1 else (j : Int)
/-- the numbers of values when one stands for another -/
def nuB (n : Nat) (v f : Nat) : List Int := ((List.range n).map fun (j : Nat) => (j : Int)).set v (f : Int)
theorem nuD_len (n : Nat) (v : Int) : (nuD n v).length = n := by unfold nuD; rw [List.length_map, List.length_range]
theorem nuB_len (n v f : Nat) : (nuB n v f).length = n := by unfold nuB; rw [List.length_set, List.length_map, List.length_range]
def drpD (m : Nat) (ds : List Deed) (i : Nat) : List Deed := (ds.take i ++ ds.drop (i + 1)).map (renD (nuD (m + ds.length) ((m + i : Nat) : Int)))
def drpO (m : Nat) (ds : List Deed) (o : Int) (i : Nat) : Int := (nuD (m + ds.length) ((m + i : Nat) : Int)).getD o.toNat 0
def bckD (m : Nat) (ds : List Deed) (v f : Nat) : List Deed := ds.map (renD (nuB (m + ds.length) v f))
def bckO (m : Nat) (ds : List Deed) (o : Int) (v f : Nat) : Int := (nuB (m + ds.length) v f).getD o.toNat 0
theorem deeds_in {m : Nat} {ds : List Deed} (h : DsOk (m : Int) ds) : ∀ d ∈ ds, DeedOk ((m + ds.length : Nat) : Int) d := fun d hd => by
  obtain ⟨j, hj⟩ := List.mem_iff_getElem?.mp hd
  have jl := (List.getElem?_eq_some_iff.mp hj).1
  have e := h.each j d hj
  exact ⟨e.word, fun i hi => ⟨(e.ahead i hi).1, by have := (e.ahead i hi).2; omega⟩⟩
theorem aw_take {α β : Type} {F : α → β → Prop} : ∀ {l : List α} {k : List β} (n : Nat), Paired F l k → Paired F (l.take n) (k.take n)
  | _, _, 0, _ => by rw [List.take_zero, List.take_zero]; exact .nil
  | _, _, n + 1, .nil => .nil
  | _, _, n + 1, .cons h t => .cons h (aw_take n t)
theorem aw_drop {α β : Type} {F : α → β → Prop} : ∀ {l : List α} {k : List β} (n : Nat), Paired F l k → Paired F (l.drop n) (k.drop n)
  | _, _, 0, h => h
  | _, _, n + 1, .nil => .nil
  | _, _, n + 1, .cons h t => aw_drop n t
def spDrp : Sp := fun vs H Q _ => ∃ (R : Addr) (m i : Nat) (o : Int) (ds : List Deed), vs = [.ref R, .int ((m + i : Nat) : Int)] ∧ RowAt H R m ds o ∧ RowOk m ds o ∧ i < ds.length ∧
  ∀ H' R', Same H H' → RowAt H' R' m (drpD m ds i) (drpO m ds o i) → Q (.ref R') H'
set_option maxHeartbeats 4000000 in
theorem ok_drp {f fR : Addr} {fd fdR : FuncData} {k : Nat} (F : Fun K "dropped" "dropped" s_dropped f fd)
    (GR : FnOk P w K mg base CX0 (k + 1) fR fdR ["deed", "numbers"] (spRen K)) (kR : PySem.W.keepIn K (.ref fR) = true) (bR : Binds K fdR ["deed", "numbers"] []) (gR : mg "renumbered" = some (.ref fR))
    (mr : mg "range" = none) (mn : mg "len" = none) (mt : mg "tuple" = none) : FnOk P w K mg base CX0 (k + 2) f fd ["row", "value"] spDrp := by
  refine F.ok sc_dropped (fun vs H Q E h => ?_) (fun cdv A outer s H vs Q E hr h => ?_)
  · obtain ⟨R, m, i, o, ds, rfl, _⟩ := h
    rfl
  · obtain ⟨R, m, i, o, ds, rfl, hrow, ok, hi, q⟩ := h
    obtain ⟨D, rs, eR, eD, hd⟩ := id hrow
    have l8 := ok.len
    have m1 := ok.m1
    have m3 := ok.m3
    have o0 := ok.o0
    have o1 := ok.o1
    have rl := awLen hd
    refine ⟨_, pss_cons (ps_asg (pv 0) (pg_tup rfl (pgs_cons (pg_name (i := 2) sc_dropped.nd rfl (.inl rfl)) (pgs_cons (pg_name (i := 3) sc_dropped.nd rfl (.inl rfl)) (pgs_cons (pg_name (i := 4) sc_dropped.nd rfl (.inl rfl)) pgs_nil)))))
    (pss_cons (ps_set (i := 5) sc_dropped.nd rfl (.inl rfl) (pe_op op_sub (pv 1) (pv 2)))
    (pss_cons (ps_set (i := 6) sc_dropped.nd rfl (.inr rfl) (pe_lc (own := [("number", 8)]) (g := gName 8) (by rfl) sc_dropped.nd (pi_range1 (by rfl) mr (pa_cons (pe_op op_add (pv 2) (pe_callB call_len_seq (by rfl) mn PySem.boot_len (pa_cons (pv 3) pa_nil))) pa_nil)) (blkOk_by (own := [("number", 8)]) (N := N_dropped) (sc := defScope s_dropped) (by decide +kernel)) (fun _ _ _ _ _ => (pg_name (i := 8) sc_dropped.nd rfl (.inl rfl))) (fun _ _ _ _ _ => pts_nil) (fun _ _ _ _ _ => (pe_ifExp (pt_cmpR op_gt (pv 8) (pv 1) (nomark _)) (pe_op op_sub (pv 8) pe_int) (pv 8)))))
    (pss_cons (ps_set (i := 7) sc_dropped.nd rfl (.inl rfl) (pe_op op_catZ (pe_slice sl_tupZ (pv 3) po_none (po_some (pv 5))) (pe_slice sl_tupZ (pv 3) (po_some (pe_op op_add (pv 5) pe_int)) po_none)))
    (pss_one (ps_ret (pe_tup (pa_cons (pv 2) (pa_cons (pe_callTy call_tuple_of (by rfl) mt (by decide +kernel) (pa_cons (pe_lc (own := [("deed", 9)]) (g := gName 9) (by rfl) sc_dropped.nd (pi_tup (pv 7)) (blkOk_by (own := [("deed", 9)]) (N := N_dropped) (sc := defScope s_dropped) (by decide +kernel)) (fun _ _ _ _ _ => (pg_name (i := 9) sc_dropped.nd rfl (.inl rfl))) (fun _ _ _ _ _ => pts_nil) (fun _ _ _ _ _ => (pe_call GR hr (by rfl) gR kR bR .nil pass0 (pa_cons (pv 9) (pa_cons (pv 6) pa_nil))))) pa_nil)) (pa_cons (pe_ix ix_list (pv 6) (pv 4) (fun _ _ => rfl)) pa_nil))))))))), ?_⟩
    refine ⟨.ref R, rfl, R, [.int m, .ref D, .int o], rfl, SqT.of eR, rfl, .int m, [.ref D, .int o], rfl, .ref D, [.int o], rfl, .int o, [], rfl, rfl, ?_⟩
    refine ⟨.int ((m + i : Nat) : Int), rfl, .int (m : Int), rfl, _, _, rfl, rfl, ?_⟩
    have ei : ((m + i : Nat) : Int) - (m : Int) = (i : Int) := by omega
    have ev : (fun (i j : Int) => V.int (i - j)) ((m + i : Nat) : Int) (m : Int) = V.int (i : Int) := congrArg V.int ei
    rw [ev]
    have en : (m : Int) + ((rs.map V.ref).length : Int) = ((m + ds.length : Nat) : Int) := by rw [List.length_map, rl]; omega
    refine ⟨.int (m : Int), rfl, .ref D, rfl, D, _, rfl, .inr (SqT.of eD), (m : Int), _, rfl, rfl, ?_⟩
    have ev2 : (fun (i j : Int) => V.int (i + j)) (m : Int) ((rs.map V.ref).length : Int) = V.int ((m + ds.length : Nat) : Int) := congrArg V.int en
    rw [ev2]
    refine ⟨((m + ds.length : Nat) : Int), rfl, by omega, by omega, fun C hC => ?_⟩
    refine lc_range (lo := 0) (n := m + ds.length) (fun j H4 => H4 = upd H C (.lst ((nuD j ((m + i : Nat) : Int)).map V.int))) rfl (fun j H4 hj hp => ?_) (fun H4 hp => ?_)
    · subst hp
      refine ⟨rfl, .int (0 + (j : Int)), rfl, .int ((m + i : Nat) : Int), rfl, _, _, rfl, rfl, _, rfl, ?_⟩
      have ej : (0 : Int) + (j : Int) = (j : Int) := Int.zero_add _
      rw [ej]
      have fin : ∀ z : Int, z = (if (j : Int) > ((m + i : Nat) : Int) then (j : Int) - 1 else (j : Int)) → ∃ acc, (upd H C (.lst ((nuD j ((m + i : Nat) : Int)).map V.int))) C = some (.lst acc) ∧ acc.length < sizeLine ∧ upd (upd H C (.lst ((nuD j ((m + i : Nat) : Int)).map V.int))) C (.lst (acc ++ [V.int z])) = upd H C (.lst ((nuD (j + 1) ((m + i : Nat) : Int)).map V.int)) := fun z hz => by
        refine ⟨_, upd_same, by rw [List.length_map, nuD_len]; exact small1000 (by omega), ?_⟩
        rw [upd_upd]
        congr 2
        unfold nuD
        rw [List.range_succ, List.map_append, List.map_append, hz]
        rfl
      refine ite2 (fun e => ?_) (fun e => ?_)
      · have e' : (j : Int) > ((m + i : Nat) : Int) := of_decide_eq_true e
        exact ⟨.int (j : Int), rfl, (j : Int), 1, rfl, rfl, fin _ (by rw [if_pos e'])⟩
      · have e' : ¬ (j : Int) > ((m + i : Nat) : Int) := fun z => e (decide_eq_true z)
        exact ⟨.int (j : Int), rfl, fin _ (by rw [if_neg e'])⟩
    · have sC := same_new (o := .lst ((nuD (m + ds.length) ((m + i : Nat) : Int)).map V.int)) hC
      have eN : H4 C = some (.lst ((nuD (m + ds.length) ((m + i : Nat) : Int)).map V.int)) := by rw [hp]; exact upd_same
      rw [← hp] at sC
      clear hp
      refine ⟨.ref D, rfl, .int (i : Int), rfl, (i : Int), rfl, D, _, rfl, sC _ _ eD, fun T1 H5 s5 e5 => ?_⟩
      refine ⟨.ref D, rfl, .int (i : Int), rfl, (i : Int), 1, rfl, rfl, ((i + 1 : Nat) : Int), rfl, D, _, rfl, s5 _ _ (sC _ _ eD), fun T2 H6 s6 e6 => ?_⟩
      rw [cut_take] at e5
      rw [cut_drop] at e6
      refine ⟨T1, T2, _, _, rfl, rfl, s6 _ _ e5, e6, by rw [List.length_take, List.length_drop, List.length_map, sizeLine_eq]; omega, fun T3 H7 s7 e7 => ?_⟩
      have s07 : Same H H7 := sC.trans (s5.trans (s6.trans s7))
      have eN7 := s7 _ _ (s6 _ _ (s5 _ _ eN))
      obtain ⟨rs', hrs'⟩ : ∃ rs', rs' = rs.take i ++ rs.drop (i + 1) := ⟨_, rfl⟩
      obtain ⟨ds', hds'⟩ : ∃ ds', ds' = ds.take i ++ ds.drop (i + 1) := ⟨_, rfl⟩
      have eT3 : H7 T3 = some (.tup (rs'.map V.ref)) := by rw [e7, hrs', List.map_append, List.map_take, List.map_drop]
      have hd' : DsAt H7 rs' ds' := by
        rw [hrs', hds']
        exact ft_app (aw_take i (awMap (fun _ _ e => s07 _ _ e) hd)) (aw_drop (i + 1) (awMap (fun _ _ e => s07 _ _ e) hd))
      have hin : ∀ d ∈ ds', DeedOk ((nuD (m + ds.length) ((m + i : Nat) : Int)).length : Int) d := fun d hdm => by
        rw [nuD_len]
        refine deeds_in ok.deeds d ?_
        rw [hds'] at hdm
        rcases List.mem_append.mp hdm with z | z
        · exact List.mem_of_mem_take z
        · exact List.mem_of_mem_drop z
      have rl' := awLen hd'
      have dl' : ds'.length ≤ 16 := by rw [hds', List.length_append, List.length_take, List.length_drop]; omega
      refine ⟨.int (m : Int), rfl, .ref T3, rfl, T3, rfl, ⟨_, SqT.of eT3⟩, fun C2 hC2 => ?_⟩
      refine lc_tup (K := K) (a := T3) (xs := rs'.map V.ref) (fun j H8 => ∃ ts, H8 C2 = some (.lst (ts.map V.ref)) ∧ DsAt H8 ts ((ds'.take j).map (renD (nuD (m + ds.length) ((m + i : Nat) : Int)))) ∧ Same H7 H8) ⟨[], upd_same, by rw [List.take_zero]; exact .nil, same_new hC2⟩ (fun j H8 _ hp => ?_) (fun j x H8 hx hp => ?_) (fun H8 hp => ?_)
      · obtain ⟨_, _, _, s8⟩ := hp
        exact SqT.of (s8 _ _ eT3)
      · obtain ⟨ts, eC2, hts, s8⟩ := hp
        rw [List.getElem?_map] at hx
        obtain ⟨r, hr', rfl⟩ := Option.map_eq_some_iff.mp hx
        obtain ⟨d, hd1, hd2⟩ := awGet hd' hr'
        refine ⟨rfl, .ref r, rfl, .ref C, rfl, r, C, d, _, rfl, s8 _ _ hd2, hin d (List.mem_of_getElem? hd1), .inl (.inl (s8 _ _ eN7)), fun H9 r' s9 e9 => ?_⟩
        have eC9 := s9 _ _ eC2
        have tl := awLen hts
        rw [List.length_map, List.length_take] at tl
        have tF := tups_put (o := .lst (ts.map V.ref ++ [V.ref r'])) eC9
        refine ⟨_, eC9, by rw [List.length_map]; exact small1000 (by omega), ts ++ [r'], by rw [upd_same, List.map_append]; rfl, ?_, fun b u e => ?_⟩
        · rw [List.take_add_one, hd1, List.map_append]
          exact awMap (fun _ _ e => tF _ _ e) (awSnoc (F := fun (r : Addr) (d : Deed) => H9 r = some (.tup (dV d))) e9 (awMap (fun _ _ e => s9 _ _ e) hts))
        · rw [upd_ne (ne_of_none e hC2)]
          exact s9 _ _ (s8 _ _ e)
      · obtain ⟨ts, eC2, hts, s8⟩ := hp
        rw [List.length_map, rl', List.take_length] at hts
        refine ⟨C2, _, rfl, .inl ⟨.inl (.inl eC2), fun Z hZ => ?_⟩⟩
        have sZ := same_new (o := .tup (ts.map V.ref)) hZ
        have s7Z := s8.trans sZ
        refine ⟨.ref C, rfl, .int o, rfl, C, _, o, .int (drpO m ds o i), rfl, rfl, .inl (.inl (s7Z _ _ eN7)), atI_ints o0 (by rw [nuD_len]; omega), (by show 3 ≤ sizeLine; decide), fun R' hR' => ?_⟩
        have sR := same_new (o := .tup [.int (m : Int), .ref Z, .int (drpO m ds o i)]) hR'
        refine q _ R' (s07.trans (s7Z.trans sR)) ⟨Z, ts, upd_same, sR _ _ upd_same, ?_⟩
        unfold drpD
        rw [← hds']
        exact awMap (fun _ _ e => sR _ _ (sZ _ _ e)) hts
def spBck : Sp := fun vs H Q _ => ∃ (R : Addr) (m v : Nat) (o : Int) (ds : List Deed), vs = [.ref R, .int (v : Int)] ∧ RowAt H R m ds o ∧ RowOk m ds o ∧ v < m + ds.length ∧
  ∀ H' R', Same H H' → RowAt H' R' m (bckD m ds v (frs m ds v)) (bckO m ds o v (frs m ds v)) → Q (.ref R') H'
set_option maxHeartbeats 4000000 in
theorem ok_bck {f fR fA : Addr} {fd fdR fdA : FuncData} {k : Nat} (F : Fun K "brought_back" "brought_back" s_brought_back f fd)
    (GR : FnOk P w K mg base CX0 (k + 1) fR fdR ["deed", "numbers"] (spRen K)) (kR : PySem.W.keepIn K (.ref fR) = true) (bR : Binds K fdR ["deed", "numbers"] []) (gR : mg "renumbered" = some (.ref fR))
    (GA : FnOk P w K mg base CX0 (k + 6) fA fdA ["row"] spFa) (kA : PySem.W.keepIn K (.ref fA) = true) (bA : Binds K fdA ["row"] []) (gA : mg "first_alikes" = some (.ref fA))
    (mr : mg "range" = none) (mn : mg "len" = none) (mt : mg "tuple" = none) (ml : mg "list" = none) : FnOk P w K mg base CX0 (k + 7) f fd ["row", "value"] spBck := by
  refine F.ok sc_brought_back (fun vs H Q E h => ?_) (fun cdv A outer s H vs Q E hr h => ?_)
  · obtain ⟨R, m, v, o, ds, rfl, _⟩ := h
    rfl
  · obtain ⟨R, m, v, o, ds, rfl, hrow, ok, hv, q⟩ := h
    obtain ⟨D, rs, eR, eD, hd⟩ := id hrow
    have r1 := hr.mono (show k + 1 ≤ k + 6 by omega)
    have l8 := ok.len
    have m1 := ok.m1
    have m3 := ok.m3
    have o0 := ok.o0
    have o1 := ok.o1
    have rl := awLen hd
    refine ⟨_, pss_cons (ps_asg (pv 0) (pg_tup rfl (pgs_cons (pg_name (i := 2) sc_brought_back.nd rfl (.inl rfl)) (pgs_cons (pg_name (i := 3) sc_brought_back.nd rfl (.inl rfl)) (pgs_cons (pg_name (i := 4) sc_brought_back.nd rfl (.inl rfl)) pgs_nil)))))
    (pss_cons (ps_set (i := 5) sc_brought_back.nd rfl (.inr rfl) (pe_listRg rfl (by rfl) ml (prg_1 (by rfl) mr (pe_op op_add (pv 2) (pe_callB call_len_seq (by rfl) mn PySem.boot_len (pa_cons (pv 3) pa_nil))))))
    (pss_cons (ps_asg (pe_ix ix_list (pe_call GA hr (by rfl) gA kA bA .nil pass0 (pa_cons (pv 0) pa_nil)) (pv 1) (fun _ _ => rfl)) (pg_sub (pv 5) (pv 1) set_list))
    (pss_one (ps_ret (pe_tup (pa_cons (pv 2) (pa_cons (pe_callTy call_tuple_of (by rfl) mt (by decide +kernel) (pa_cons (pe_lc (own := [("deed", 6)]) (g := gName 6) (by rfl) sc_brought_back.nd (pi_tup (pv 3)) (blkOk_by (own := [("deed", 6)]) (N := N_brought_back) (sc := defScope s_brought_back) (by decide +kernel)) (fun _ _ _ _ _ => (pg_name (i := 6) sc_brought_back.nd rfl (.inl rfl))) (fun _ _ _ _ _ => pts_nil) (fun _ _ _ _ _ => (pe_call GR r1 (by rfl) gR kR bR .nil pass0 (pa_cons (pv 6) (pa_cons (pv 5) pa_nil))))) pa_nil)) (pa_cons (pe_ix ix_list (pv 5) (pv 4) (fun _ _ => rfl)) pa_nil)))))))), ?_⟩
    refine ⟨.ref R, rfl, R, [.int m, .ref D, .int o], rfl, SqT.of eR, rfl, .int m, [.ref D, .int o], rfl, .ref D, [.int o], rfl, .int o, [], rfl, rfl, ?_⟩
    have en : (m : Int) + ((rs.map V.ref).length : Int) = ((m + ds.length : Nat) : Int) := by rw [List.length_map, rl]; omega
    refine ⟨.int (m : Int), rfl, .ref D, rfl, D, _, rfl, .inr (SqT.of eD), (m : Int), _, rfl, rfl, (m : Int) + ((rs.map V.ref).length : Int), rfl, ?_⟩
    rw [en]
    refine ⟨RgOk.of_le (by omega) (by omega) (by omega) (by omega), fun N hN => ?_⟩
    have sN := same_new (o := .lst (rgV 0 ((m + ds.length : Nat) : Int))) hN
    have er : rgV 0 ((m + ds.length : Nat) : Int) = ((List.range (m + ds.length)).map fun (j : Nat) => (j : Int)).map V.int := by
      unfold rgV
      rw [Int.sub_zero, Int.toNat_natCast, List.map_map]
      refine List.map_congr_left fun j _ => ?_
      show V.int (0 + (j : Int)) = V.int (j : Int)
      rw [Int.zero_add]
    refine ⟨.ref R, rfl, R, m, o, ds, rfl, (Same.tups sN).row hrow, ok, fun H1 Fi s1 nFi eFi => ?_⟩
    have eN1 := s1 _ _ (show upd H N (.lst (rgV 0 ((m + ds.length : Nat) : Int))) N = _ from upd_same)
    rw [er] at eN1
    refine ⟨.int (v : Int), rfl, Fi, _, (v : Int), .int ((frs m ds v : Nat) : Int), rfl, rfl, .inl (.inl eFi), atI_nat (by rw [List.getElem?_map, List.getElem?_map, List.getElem?_range hv]; rfl), ?_⟩
    refine ⟨.ref N, rfl, .int (v : Int), rfl, N, _, (v : Int), v, rfl, rfl, eN1, ?_, ?_⟩
    · unfold ixN
      rw [if_pos (by omega), if_pos (by rw [List.length_map, List.length_map, List.length_range]; omega), Int.toNat_natCast]
    have eset : (((List.range (m + ds.length)).map fun (j : Nat) => (j : Int)).map V.int).set v (.int ((frs m ds v : Nat) : Int)) = (nuB (m + ds.length) v (frs m ds v)).map V.int := by
      unfold nuB
      rw [List.map_set]
    rw [eset]
    obtain ⟨H2, hH2⟩ : ∃ H2, H2 = upd H1 N (.lst ((nuB (m + ds.length) v (frs m ds v)).map V.int)) := ⟨_, rfl⟩
    have eN2 : H2 N = some (.lst ((nuB (m + ds.length) v (frs m ds v)).map V.int)) := by rw [hH2]; exact upd_same
    have s02 : Same H H2 := fun b u e => by
      rw [hH2, upd_ne (ne_of_none e hN)]
      exact s1 _ _ (sN _ _ e)
    rw [← hH2]
    have hd' := awMap (fun _ _ e => s02 _ _ e) hd
    refine ⟨.int (m : Int), rfl, .ref D, rfl, D, rfl, ⟨_, SqT.of (s02 _ _ eD)⟩, fun C2 hC2 => ?_⟩
    refine lc_tup (K := K) (a := D) (xs := rs.map V.ref) (fun j H8 => ∃ ts, H8 C2 = some (.lst (ts.map V.ref)) ∧ DsAt H8 ts ((ds.take j).map (renD (nuB (m + ds.length) v (frs m ds v)))) ∧ Same H2 H8) ⟨[], upd_same, by rw [List.take_zero]; exact .nil, same_new hC2⟩ (fun j H8 _ hp => ?_) (fun j x H8 hx hp => ?_) (fun H8 hp => ?_)
    · obtain ⟨_, _, _, s8⟩ := hp
      exact SqT.of (s8 _ _ (s02 _ _ eD))
    · obtain ⟨ts, eC2, hts, s8⟩ := hp
      rw [List.getElem?_map] at hx
      obtain ⟨r, hr', rfl⟩ := Option.map_eq_some_iff.mp hx
      obtain ⟨d, hd1, hd2⟩ := awGet hd' hr'
      refine ⟨rfl, .ref r, rfl, .ref N, rfl, r, N, d, _, rfl, s8 _ _ hd2, by rw [nuB_len]; exact deeds_in ok.deeds d (List.mem_of_getElem? hd1), .inl (.inl (s8 _ _ eN2)), fun H9 r' s9 e9 => ?_⟩
      have eC9 := s9 _ _ eC2
      have tl := awLen hts
      rw [List.length_map, List.length_take] at tl
      have tF := tups_put (o := .lst (ts.map V.ref ++ [V.ref r'])) eC9
      refine ⟨_, eC9, by rw [List.length_map]; exact small1000 (by omega), ts ++ [r'], by rw [upd_same, List.map_append]; rfl, ?_, fun b u e => ?_⟩
      · rw [List.take_add_one, hd1, List.map_append]
        exact awMap (fun _ _ e => tF _ _ e) (awSnoc (F := fun (r : Addr) (d : Deed) => H9 r = some (.tup (dV d))) e9 (awMap (fun _ _ e => s9 _ _ e) hts))
      · rw [upd_ne (ne_of_none e hC2)]
        exact s9 _ _ (s8 _ _ e)
    · obtain ⟨ts, eC2, hts, s8⟩ := hp
      rw [List.length_map, rl, List.take_length] at hts
      refine ⟨C2, _, rfl, .inl ⟨.inl (.inl eC2), fun Z hZ => ?_⟩⟩
      have sZ := same_new (o := .tup (ts.map V.ref)) hZ
      have s2Z := s8.trans sZ
      refine ⟨.ref N, rfl, .int o, rfl, N, _, o, .int (bckO m ds o v (frs m ds v)), rfl, rfl, .inl (.inl (s2Z _ _ eN2)), atI_ints o0 (by rw [nuB_len]; omega), (by show 3 ≤ sizeLine; decide), fun R' hR' => ?_⟩
      have sR := same_new (o := .tup [.int (m : Int), .ref Z, .int (bckO m ds o v (frs m ds v))]) hR'
      exact q _ R' (s02.trans (s2Z.trans sR)) ⟨Z, ts, upd_same, sR _ _ upd_same, awMap (fun _ _ e => sR _ _ (sZ _ _ e)) hts⟩
/-! ### k54: is_fitting, put_by, put_otherwise -/
def spWh9 : Sp := fun vs H Q _ => ∃ i : Int, vs = [.int i] ∧ Q (.bl true) H
theorem ok_wh9 {f : Addr} {fd : FuncData} {k : Nat} (F : Fun K "is_whole" "is_whole" s_is_whole f fd) (mi : mg "isinstance" = none) (mI : mg "int" = none) (mB : mg "bool" = none) : FnOk P w K mg base CX0 (k + 1) f fd ["thing"] spWh9 := by
  refine F.ok sc_is_whole (fun vs H Q E h => ?_) (fun cdv A outer s H vs Q E hr h => ?_)
  · obtain ⟨i, rfl, _⟩ := h
    rfl
  · obtain ⟨i, rfl, q⟩ := h
    refine ⟨_, pss_one (ps_ret (pe_and (pe_callB call_isi (by rfl) mi (by decide +kernel) (pa_cons (pv 0) (pa_cons (pe_bltn (v := .ty "int") (by rfl) mI (by decide +kernel) rfl) pa_nil))) (pe_one (pe_not (pe_callB call_isi (by rfl) mi (by decide +kernel) (pa_cons (pv 0) (pa_cons (pe_bltn (v := .ty "bool") (by rfl) mB (by decide +kernel) rfl) pa_nil))))))), ?_⟩
    refine ⟨.int i, rfl, .int i, .ty "int", .type "int", .type "int", true, rfl, .ty "int", .base (.int i), kit_ty (by decide +kernel), true, rfl, iteT ?_⟩
    exact ⟨.int i, rfl, .int i, .ty "bool", .type "int", .type "bool", false, rfl, .ty "bool", .base (.int i), kit_ty (by decide +kernel), false, rfl, q⟩
def fD (e : Str × Int) : PyData := .tuple [.str e.1, .int e.2]
abbrev FWd (x : Str) : Prop := x = "drop" ∨ x = "same"
theorem fw_strOk {x : Str} (h : FWd x) : PyData.strOk x = true := by
  rcases h with rfl | rfl <;> decide +kernel
theorem lay_fD {e : Str × Int} (h : FWd e.1) : (fD e).canLay0 = true ∧ (fD e).depth = 1 := by
  have h3 := fw_strOk h
  unfold fD
  exact ⟨by simp only [PyData.canLay0, PyData.canLayAll0, h3, Bool.and_self], by simp only [PyData.depth, PyData.depthAll, Nat.max_self]⟩
theorem shaped_fD {e : Str × Int} (h : FWd e.1) : SeqAt.shaped (fD e) = true := by
  obtain ⟨a1, a2⟩ := lay_fD h
  unfold SeqAt.shaped
  rw [a1, a2]
  rfl
theorem lay_fDs : ∀ {l : List (Str × Int)}, (∀ e ∈ l, FWd e.1) → PyData.canLayAll0 (l.map fD) = true ∧ PyData.depthAll (l.map fD) ≤ 1
  | [], _ => ⟨by simp only [List.map_nil, PyData.canLayAll0], by simp only [List.map_nil, PyData.depthAll]; decide⟩
  | q :: l, h => by
    obtain ⟨a1, a2⟩ := lay_fD (h q List.mem_cons_self)
    obtain ⟨b1, b2⟩ := lay_fDs (l := l) fun e he => h e (List.mem_cons_of_mem _ he)
    exact ⟨by simp only [List.map_cons, PyData.canLayAll0, a1, b1, Bool.and_self], by simp only [List.map_cons, PyData.depthAll, a2]; omega⟩
theorem shaped_fDs {l : List (Str × Int)} (h : ∀ e ∈ l, FWd e.1) : SeqAt.shaped (.list (l.map fD)) = true := by
  obtain ⟨a1, a2⟩ := lay_fDs h
  unfold SeqAt.shaped
  simp only [PyData.canLay0, PyData.depth, a1, Bool.true_and]
  exact decide_eq_true (by omega)
theorem eqv_fD (p q : Str × Int) (h : FWd p.1) : PyData.eqv (fD p) (fD q) = decide (p = q) := by
  by_cases hpq : p = q
  · subst hpq
    rw [decide_eq_true rfl]
    exact SeqAt.eqv_refl _ (SeqAt.canLay_of_shaped (shaped_fD h))
  · rw [decide_eq_false hpq]
    cases e : PyData.eqv (fD p) (fD q) with
    | false => rfl
    | true =>
      exfalso
      unfold fD at e
      simp only [PyData.eqv, PyData.eqvAll, Bool.and_eq_true] at e
      have e1 : p.1 = q.1 := by simpa [PyData.eqv] using e.1
      have e2 : p.2 = q.2 := by simpa [PyData.eqv] using e.2.1
      exact hpq (Prod.ext e1 e2)
theorem any_fD (q : Str × Int) : ∀ {l : List (Str × Int)}, (∀ e ∈ l, FWd e.1) → ((l.map fD).any fun z => PyData.eqv z (fD q)) = decide (q ∈ l)
  | [], _ => rfl
  | p :: l, hl => by
    rw [List.map_cons, List.any_cons, eqv_fD p q (hl p List.mem_cons_self), any_fD q (l := l) fun e he => hl e (List.mem_cons_of_mem _ he)]
    by_cases h : p = q
    · subst h
      simp
    · have : ¬ q = p := fun z => h z.symm
      simp [h, this]
theorem dp_fD {H : Hp} {a : Addr} {e : Str × Int} (h : H a = some (.tup [.str e.1, .int e.2])) : Dp K H (.ref a) (fD e) := .tup (SqT.of h) (.cons (.str _) (.cons (.int _) .nil))
theorem dp_fDs {H : Hp} : ∀ {as : List Addr} {l : List (Str × Int)}, FtAt H as l → DpAll K H (as.map V.ref) (l.map fD)
  | _, _, .nil => .nil
  | _, _, .cons h t => .cons (dp_fD h) (dp_fDs t)
theorem fitL_wd (m : Nat) (ds : List Deed) (o : Int) : ∀ e ∈ fitL m ds o, FWd e.1 := fun e he => by
  unfold fitL at he
  rcases List.mem_append.mp he with h | h
  · obtain ⟨i, _, rfl⟩ := List.mem_map.mp h
    exact .inl rfl
  · obtain ⟨i, _, rfl⟩ := List.mem_map.mp h
    exact .inr rfl
theorem fitL_mem {m : Nat} {ds : List Deed} {o : Int} {e : Str × Int} (h : e ∈ fitL m ds o) : ∃ i, i < ds.length ∧ e.2 = ((m + i : Nat) : Int) := by
  unfold fitL at h
  rcases List.mem_append.mp h with h | h
  · obtain ⟨i, hi, rfl⟩ := List.mem_map.mp h
    exact ⟨i, List.mem_range.mp (List.mem_filter.mp hi).1, rfl⟩
  · obtain ⟨i, hi, rfl⟩ := List.mem_map.mp h
    exact ⟨i, List.mem_range.mp (List.mem_filter.mp hi).1, rfl⟩
def spIf : Sp := fun vs H Q _ => ∃ (R : Addr) (m : Nat) (o v : Int) (x : Str) (ds : List Deed), vs = [.ref R, .str x, .int v] ∧ RowAt H R m ds o ∧ RowOk m ds o ∧ FWd x ∧ ∀ H', Same H H' → Q (.bl (decide ((x, v) ∈ fitL m ds o))) H'
theorem ok_if {f fW fF : Addr} {fd fdW fdF : FuncData} {k : Nat} (F : Fun K "is_fitting" "is_fitting" s_is_fitting f fd)
    (GW : FnOk P w K mg base CX0 (k + 1) fW fdW ["thing"] spWh9) (kW : PySem.W.keepIn K (.ref fW) = true) (bW : Binds K fdW ["thing"] []) (gW : mg "is_whole" = some (.ref fW))
    (GF : FnOk P w K mg base CX0 (k + 7) fF fdF ["row"] spFi) (kF : PySem.W.keepIn K (.ref fF) = true) (bF : Binds K fdF ["row"] []) (gF : mg "fitting" = some (.ref fF)) : FnOk P w K mg base CX0 (k + 8) f fd ["row", "rule", "value"] spIf := by
  refine F.ok sc_is_fitting (fun vs H Q E h => ?_) (fun cdv A outer s H vs Q E hr h => ?_)
  · obtain ⟨R, m, o, v, x, ds, rfl, _⟩ := h
    rfl
  · obtain ⟨R, m, o, v, x, ds, rfl, hrow, ok, hx, q⟩ := h
    have r1 := hr.mono (show k + 1 ≤ k + 7 by omega)
    have hu65 := hu65_of hr
    refine ⟨_, pss_one (ps_ret (pe_and (pe_call GW r1 (by rfl) gW kW bW .nil pass0 (pa_cons (pv 2) pa_nil)) (pe_one (pe_cmpR (op_inD hu65) (pe_tup (pa_cons (pv 1) (pa_cons (pv 2) pa_nil))) (pe_call GF hr (by rfl) gF kF bF .nil pass0 (pa_cons (pv 0) pa_nil)) (by rfl))))), ?_⟩
    refine ⟨.int v, rfl, v, rfl, true, rfl, iteT ?_⟩
    refine ⟨.str x, rfl, .int v, rfl, (by show 2 ≤ sizeLine; decide), fun T hT => ?_⟩
    have sT := same_new (o := .tup [.str x, .int v]) hT
    refine ⟨.ref R, rfl, R, m, o, ds, rfl, (Same.tups sT).row hrow, ok, fun H1 L ts s1 nL eL hts => ?_⟩
    refine ⟨fD (x, v), (fitL m ds o).map fD, dp_fD (e := (x, v)) (s1 _ _ upd_same), .lst (.inl (.inl eL)) (dp_fDs hts), shaped_fD hx, shaped_fDs (fitL_wd m ds o), ?_⟩
    rw [any_fD (x, v) (fitL_wd m ds o)]
    exact q H1 (sT.trans s1)
/-- what a row becomes by a rule that fits -/
noncomputable def putD (m : Nat) (ds : List Deed) (e : Str × Int) : List Deed := if e.1 = "drop" then drpD m ds (e.2.toNat - m) else bckD m ds e.2.toNat (frs m ds e.2.toNat)
noncomputable def putO (m : Nat) (ds : List Deed) (o : Int) (e : Str × Int) : Int := if e.1 = "drop" then drpO m ds o (e.2.toNat - m) else bckO m ds o e.2.toNat (frs m ds e.2.toNat)
def spPb : Sp := fun vs H Q _ => ∃ (R : Addr) (m : Nat) (o : Int) (e : Str × Int) (ds : List Deed), vs = [.ref R, .str e.1, .int e.2] ∧ RowAt H R m ds o ∧ RowOk m ds o ∧ e ∈ fitL m ds o ∧ ∀ H' R', Same H H' → RowAt H' R' m (putD m ds e) (putO m ds o e) → Q (.ref R') H'
theorem ok_pb54 {f fD' fB : Addr} {fd fdD fdB : FuncData} {k : Nat} (F : Fun K "put_by" "put_by" s_put_by f fd)
    (GD : FnOk P w K mg base CX0 (k + 2) fD' fdD ["row", "value"] spDrp) (kD : PySem.W.keepIn K (.ref fD') = true) (bD : Binds K fdD ["row", "value"] []) (gD : mg "dropped" = some (.ref fD'))
    (GB : FnOk P w K mg base CX0 (k + 7) fB fdB ["row", "value"] spBck) (kB : PySem.W.keepIn K (.ref fB) = true) (bB : Binds K fdB ["row", "value"] []) (gB : mg "brought_back" = some (.ref fB)) : FnOk P w K mg base CX0 (k + 8) f fd ["row", "rule", "value"] spPb := by
  refine F.ok sc_put_by (fun vs H Q E h => ?_) (fun cdv A outer s H vs Q E hr h => ?_)
  · obtain ⟨R, m, o, e, ds, rfl, _⟩ := h
    rfl
  · obtain ⟨R, m, o, e, ds, rfl, hrow, ok, he, q⟩ := h
    have r2 := hr.mono (show k + 2 ≤ k + 7 by omega)
    refine ⟨_, pss_cons (ps_if (pt_cmpR op_eq (pv 1) pe_str (nomark _))
    (pss_one (ps_ret (pe_call GD r2 (by rfl) gD kD bD .nil pass0 (pa_cons (pv 0) (pa_cons (pv 2) pa_nil)))))
    pss_nil)
    (pss_one (ps_ret (pe_call GB hr (by rfl) gB kB bB .nil pass0 (pa_cons (pv 0) (pa_cons (pv 2) pa_nil))))), ?_⟩
    obtain ⟨i, hi, ei⟩ := fitL_mem he
    obtain ⟨x, v⟩ := e
    dsimp only at ei q
    subst ei
    refine ⟨.str x, rfl, rfl, _, rfl, ite2 (fun e => ?_) (fun e => ?_)⟩
    · have ex := strEq e
      refine ⟨.ref R, rfl, .int ((m + i : Nat) : Int), rfl, R, m, i, o, ds, rfl, hrow, ok, hi, fun H' R' s hr' => q H' R' s ?_⟩
      unfold putD putO
      rw [if_pos ex, if_pos ex, Int.toNat_natCast, Nat.add_sub_cancel_left]
      exact hr'
    · have ex := strNe e
      refine ⟨.ref R, rfl, .int ((m + i : Nat) : Int), rfl, R, m, m + i, o, ds, rfl, hrow, ok, by omega, fun H' R' s hr' => q H' R' s ?_⟩
      unfold putD putO
      rw [if_neg ex, if_neg ex, Int.toNat_natCast]
      exact hr'
/-! ### defs in which data is shown: the guards are known -/
structure FnG (P : Program) (w : World) (K : PySem.W.Frag) (mg : Str → Option Value) (base : Heap) (k : Nat) (f : Addr) (fd : FuncData) (ps : List Str) (sp : Sp) : Prop where
  len : ∀ vs H Q E, sp vs H Q E → vs.length = ps.length
  run : ∀ (A : Around) (outer : List Env) (s : Shared) (H : Hp) (args : Args) (us : List Value) (vs : List V) (Q : VK) (E : XK), Room k A → A.guards = some [] → Env0 P w K mg base A outer s H → BindsTo s fd args (ps.zip us) → Vals vs us → sp vs H Q E →
    codeAny (model P w) A (.call (.ref f) args) (CR CX0 outer P w H s Q E) s
theorem fun_okG {x qual : Str} {st : Stmt} {f : Addr} {fd : FuncData} {N ps : List Str} {k : Nat} {sp : Sp} (F : Fun K x qual st f fd) (S : FnScope N ps (defScope st)) (len : ∀ vs H Q E, sp vs H Q E → vs.length = ps.length)
    (hbody : ∀ (cdv : Value) (A : Around) (outer : List Env) (s : Shared) (H : Hp) (vs : List V) (Q : VK) (E : XK), Room k (A.deeper (envOfC qual (defScope st) s.heap.objs.size f cdv)) → (A.deeper (envOfC qual (defScope st) s.heap.objs.size f cdv)).guards = some [] → sp vs H Q E →
      ∃ t, PSs (cxOf CX0 P w K mg base N qual (defScope st) f cdv A outer s H E).nox (defBody st) t ∧ t { nx := fun _ H' => Q .non H', rt := Q } (start N vs) H) : FnG P w K mg base (k + 1) f fd ps sp :=
  ⟨len, fun A outer s H args us vs Q E hr hg e0 hb r hs => fn_at F S hr e0 hb r (len _ _ _ _ hs) fun cdv => hbody cdv A outer s H vs Q E (Room.deeper hr _) hg hs⟩
section
variable {X : Cx} {k : Nat} {f : Addr} {fd : FuncData} {ps : List Str} {sp : Sp} {x : Str} {p pos : Pos} {e : Expr} {es : List Expr} {t : TA}
theorem run_fnG {pins : List (Addr × Obj)} {σ : L2.St} {H : Hp} {s : Shared} {Q : VK} {us : List Value} {vs : List V} (F : FnG X.prog X.w X.K X.mg X.base k f fd ps sp) (hr : Room k X.A) (hgd : X.A.guards = some []) (hb : Binds X.K fd ps [])
    (I : Inv X pins σ H s) (r : Vals vs us) (h : sp vs H Q E0) : wpAny (model X.prog X.w) X.A (call (.ref f) us) (EP X pins σ Q) X.xe s := by
  have hl : us.length = ps.length := by rw [← r.length]; exact F.len _ _ _ _ h
  have b := hb s us I.kIn (by rw [List.append_nil]; exact hl)
  rw [List.append_nil] at b
  refine wpAny_call (codeAny_mono (F.run X.A X.stack s H ⟨us, []⟩ us vs Q E0 hr hgd I.env0 b r h) fun r s' hq => ?_)
  cases r with
  | error e => exact False.elim hq
  | ok fl =>
    cases fl with
    | ret u => exact I.after hq
    | next => exact False.elim hq
    | brk => exact False.elim hq
    | cont => exact False.elim hq
theorem pe_callG (F : FnG X.prog X.w X.K X.mg X.base k f fd ps sp) (hr : Room k X.A) (hgd : X.A.guards = some []) (hg : Gl X x) (hm : X.mg x = some (.ref f)) (hk : PySem.W.keepIn X.K (.ref f) = true) (hb : Binds X.K fd ps [])
    (ha : PA X (e :: es) t) (hdb : (x == ("__debug__" : Str)) = false := by decide) (he : starEach (e :: es) X.env = (false, eval e X.env) :: starEach es X.env := by rfl) (hpl : (backTo pos (starEach es X.env)).any (·.1) = false := by rfl) :
    PE X (.Call (.Name x p) (e :: es) [] pos) (tCallS sp (fun _ => E0) t) := by
  refine ⟨fun pins s σ H Q I h => ?_⟩
  refine wpAny_Call_Name_kw (ld_glob I hg hm ?_ hdb)
  refine PySem.W.callWith_K (h₀ := X.base) I.ok.mod.kin hk (thn (ha.run pos pins s σ H _ I h) fun us s1 ⟨vs, H1, I1, r, q⟩ => ⟨I1.kIn, ?_⟩) he hpl
  exact run_fnG F hr hgd hb I1 r q
end
/-- a statement that is never reached -/
theorem pss_never {X : Cx} {l : List Stmt} : PSs X l (fun _ _ _ => False) := ⟨fun _ _ _ _ _ _ h => h.elim⟩
theorem fn_or {CX : CXT} {k : Nat} {f : Addr} {fd : FuncData} {ps : List Str} {sp sp2 : Sp} (a : FnOk P w K mg base CX k f fd ps sp) (b : FnOk P w K mg base CX k f fd ps sp2) : FnOk P w K mg base CX k f fd ps (fun vs H Q E => sp vs H Q E ∨ sp2 vs H Q E) :=
  ⟨fun vs H Q E h => h.elim (a.len vs H Q E) (b.len vs H Q E), fun A outer s H args us vs Q E hr e0 hb r h => h.elim (a.run A outer s H args us vs Q E hr e0 hb r) (b.run A outer s H args us vs Q E hr e0 hb r)⟩
/-! ### data that is shown in few signs, numbers of up to sixty figures among it -/
structure NcB (b k : Nat) (d : PyData) : Prop where
  sh : d.showable = true
  lv : d.leavesShort 62 = true
  bk : d.bulk ≤ b
  dp : d.depth ≤ k
theorem NcB.fits {b k : Nat} {d : PyData} (h : NcB b k d) (hb : b ≤ 30000) : d.shown.length ≤ sizeLine := by
  have h1 := PyData.shown_le_bulk 62 (by decide) d h.lv
  have h2 := h.bk
  rw [sizeLine_eq]
  omega
theorem NcB.mono {b b2 k k2 : Nat} {d : PyData} (h : NcB b k d) (hb : b ≤ b2) (hk : k ≤ k2) : NcB b2 k2 d := ⟨h.sh, h.lv, Nat.le_trans h.bk hb, Nat.le_trans h.dp hk⟩
theorem ncb_int {i : Int} (h : i.natAbs < 10 ^ 60) : NcB 0 0 (.int i) := by
  refine ⟨?_, ?_, ?_, ?_⟩
  · simp only [PyData.showable, decide_eq_true_eq]
    have : i.natAbs < 2 ^ 200 := Nat.lt_trans h (by decide)
    by_cases e : i.natAbs = 0
    · rw [e]; decide
    · have := (Nat.log2_lt e).mpr this
      omega
  · simp only [PyData.leavesShort, decide_eq_true_eq]
    have e := int_text_length_le10 (k := 60) (by decide) h
    simp only [PyData.shown]
    rw [PySem.ofString_length]
    omega
  · simp only [PyData.bulk, Nat.le_refl]
  · simp only [PyData.depth, Nat.le_refl]
theorem ncb_str {x : Str} {n : Nat} (h : x.cps.size ≤ n) (hx : (x.cps.toList.all fun c => decide (c < 16 ^ 8)) = true) : NcB n 0 (.str x) := by
  refine ⟨?_, ?_, ?_, ?_⟩
  · simp only [PyData.showable]
  · simp only [PyData.leavesShort]
    exact hx
  · simp only [PyData.bulk]
    exact h
  · simp only [PyData.depth, Nat.le_refl]
theorem ncb_non : NcB 0 0 .none := ⟨by simp only [PyData.showable], by simp only [PyData.leavesShort], by simp only [PyData.bulk, Nat.le_refl], by simp only [PyData.depth, Nat.le_refl]⟩
theorem ncb_bl (b : Bool) : NcB 0 0 (.bool b) := ⟨by simp only [PyData.showable], by simp only [PyData.leavesShort], by simp only [PyData.bulk, Nat.le_refl], by simp only [PyData.depth, Nat.le_refl]⟩
theorem ncb_dict : NcB 0 1 (.dict []) := ⟨by simp only [PyData.showable, PyData.showableKv], by simp only [PyData.leavesShort, PyData.leavesShortKv], by simp only [PyData.bulk, PyData.bulkKv, Nat.le_refl], by simp only [PyData.depth, PyData.depthKv]; decide⟩
theorem ncb_all {b k : Nat} : ∀ {xs : List PyData}, (∀ x ∈ xs, NcB b k x) → PyData.showableAll xs = true ∧ PyData.leavesShortAll 62 xs = true ∧ PyData.bulkAll xs ≤ xs.length * (b + 1) ∧ PyData.depthAll xs ≤ k
  | [], _ => ⟨by simp only [PyData.showableAll], by simp only [PyData.leavesShortAll], by simp only [PyData.bulkAll, Nat.zero_le], by simp only [PyData.depthAll, Nat.zero_le]⟩
  | x :: xs, h => by
    obtain ⟨h1, h2, h3, h4⟩ := ncb_all fun y hy => h y (List.mem_cons_of_mem _ hy)
    obtain ⟨g1, g2, g3, g4⟩ := h x List.mem_cons_self
    refine ⟨by simp only [PyData.showableAll, g1, h1, Bool.and_self], by simp only [PyData.leavesShortAll, g2, h2, Bool.and_self], ?_, ?_⟩
    · simp only [PyData.bulkAll, List.length_cons, Nat.add_mul, Nat.one_mul]
      omega
    · simp only [PyData.depthAll]
      omega
theorem ncb_tup {b k n : Nat} {xs : List PyData} (h : ∀ x ∈ xs, NcB b k x) (hn : xs.length * (b + 1) ≤ n) : NcB n (k + 1) (.tuple xs) := by
  obtain ⟨h1, h2, h3, h4⟩ := ncb_all h
  exact ⟨by simpa only [PyData.showable] using h1, by simpa only [PyData.leavesShort] using h2, by simp only [PyData.bulk]; omega, by simp only [PyData.depth]; omega⟩
theorem ncb_lst {b k n : Nat} {xs : List PyData} (h : ∀ x ∈ xs, NcB b k x) (hn : xs.length * (b + 1) ≤ n) : NcB n (k + 1) (.list xs) := by
  obtain ⟨h1, h2, h3, h4⟩ := ncb_all h
  exact ⟨by simpa only [PyData.showable] using h1, by simpa only [PyData.leavesShort] using h2, by simp only [PyData.bulk]; omega, by simp only [PyData.depth]; omega⟩
/-! ### things of any kind, none of them at an address that is changed -/
mutual
inductive AnyAt (N : Addr → Prop) (H : Hp) : V → PyData → Prop
  | non : AnyAt N H .non .none
  | bl (b : Bool) : AnyAt N H (.bl b) (.bool b)
  | int (i : Int) : AnyAt N H (.int i) (.int i)
  | str (x : Str) : AnyAt N H (.str x) (.str x)
  | tup {a : Addr} {xs : List V} {ds : List PyData} : ¬ N a → H a = some (.tup xs) → AnyAll N H xs ds → AnyAt N H (.ref a) (.tuple ds)
  | lst {a : Addr} {xs : List V} {ds : List PyData} : ¬ N a → a ≠ sysModules → H a = some (.lst xs) → AnyAll N H xs ds → AnyAt N H (.ref a) (.list ds)
  | dic {a : Addr} : ¬ N a → H a = some (.dK []) → AnyAt N H (.ref a) (.dict [])
inductive AnyAll (N : Addr → Prop) (H : Hp) : List V → List PyData → Prop
  | nil : AnyAll N H [] []
  | cons {v : V} {vs : List V} {d : PyData} {ds : List PyData} : AnyAt N H v d → AnyAll N H vs ds → AnyAll N H (v :: vs) (d :: ds)
end
/-- what stands at no address of these stays -/
def ButN (N : Addr → Prop) (H H' : Hp) : Prop := ∀ b u, ¬ N b → H b = some u → H' b = some u
theorem any_stay {N : Addr → Prop} {H H' : Hp} (s : ButN N H H') {v : V} {d : PyData} (h : AnyAt N H v d) : AnyAt N H' v d :=
  AnyAt.rec (motive_1 := fun v d _ => AnyAt N H' v d) (motive_2 := fun vs ds _ => AnyAll N H' vs ds) .non .bl .int .str (fun n e _ ih => .tup n (s _ _ n e) ih) (fun n m e _ ih => .lst n m (s _ _ n e) ih) (fun n e => .dic n (s _ _ n e)) .nil (fun _ _ ih1 ih2 => .cons ih1 ih2) h
theorem any_same {N : Addr → Prop} {H H' : Hp} (s : Same H H') {v : V} {d : PyData} (h : AnyAt N H v d) : AnyAt N H' v d := any_stay (fun b u _ e => s b u e) h
theorem any_more {N N' : Addr → Prop} {H : Hp} (s : ∀ b u, N' b → H b = some u → N b) {v : V} {d : PyData} (h : AnyAt N H v d) : AnyAt N' H v d :=
  AnyAt.rec (motive_1 := fun v d _ => AnyAt N' H v d) (motive_2 := fun vs ds _ => AnyAll N' H vs ds) .non .bl .int .str (fun n e _ ih => .tup (fun z => n (s _ _ z e)) e ih) (fun n m e _ ih => .lst (fun z => n (s _ _ z e)) m e ih) (fun n e => .dic (fun z => n (s _ _ z e)) e) .nil (fun _ _ ih1 ih2 => .cons ih1 ih2) h
section anyx
variable {X : Cx}
/-- a list display, the list at no address of the machine's own -/
def tLstN (t : TA) : TE := fun σ H Q => t σ H fun xs H1 => xs.length ≤ sizeLine ∧ ∀ p, H1 p = none → p ≠ sysModules → Q (.ref p) (upd H1 p (.lst xs))
theorem pe_lstN {es : List Expr} {pos : Pos} {t : TA} (h : PA X es t) : PE X (.List es pos) (tLstN t) := by
  refine ⟨fun pins s σ H Q I hq => ?_⟩
  refine wpAny_List_spliced (thn (h.run pos pins s σ H _ I hq) fun us s1 ⟨xs, H1, I1, r, z, q⟩ => ⟨by rw [← r.length]; exact z, ?_⟩)
  have hf : H1 s1.heap.objs.size = none := I1.hok.fresh (Nat.le_refl _)
  have big : sysModules < s1.heap.objs.size := I1.big
  refine ⟨.ref s1.heap.objs.size, upd H1 s1.heap.objs.size (.lst xs), I1.laid (t' := s1.toks) (fun b u e => Heap.get?_push_of_some _ e) (Nat.le_refl _) ?_, rfl, q _ hf (Nat.ne_of_gt big)⟩
  exact ⟨z, us, 0, r, Heap.get?_push_size _ rfl⟩
theorem Rz.non (H : Hp) : Rz X H .non .none := by
  intro pins σ s u I r
  cases (show u = Value.none from r)
  exact ⟨_, Reads.none, (fun z => nomatch z)⟩
theorem Rz.bl (H : Hp) (b : Bool) : Rz X H (.bl b) (.bool b) := by
  intro pins σ s u I r
  cases (show u = Value.bool b from r)
  exact ⟨_, Reads.bool b, (fun z => nomatch z)⟩
theorem Rz.lst {H : Hp} {a : Addr} {xs : List V} {ds : List PyData} (na : a ≠ sysModules) (h : SqL X.K H a xs) (hs : Paired (Rz X H) xs ds) : Rz X H (.ref a) (.list ds) := by
  intro pins σ s u I r
  obtain rfl : u = Value.ref a := r
  obtain ⟨its, rv, ⟨o, n, ho, hc, hdn, hd⟩, _⟩ := I.list h
  obtain ⟨as, h1, h2⟩ := rz_all hs I rv
  refine ⟨_, Reads.list ho hc hd h1, fun z => ?_⟩
  rcases List.mem_cons.mp z with z | z
  · exact na z.symm
  · exact h2 z
theorem rz_any {N : Addr → Prop} {H : Hp} {v : V} {d : PyData} (h : AnyAt N H v d) : Rz X H v d :=
  AnyAt.rec (motive_1 := fun v d _ => Rz X H v d) (motive_2 := fun vs ds _ => Paired (Rz X H) vs ds) (Rz.non H) (Rz.bl H) (Rz.int H) (Rz.str H) (fun _ e _ ih => Rz.tup (SqT.of e) ih) (fun _ m e _ ih => Rz.lst m (.inl (.inl e)) ih) (fun _ e => rz_dict (es := []) e) .nil (fun _ _ ih1 ih2 => .cons ih1 ih2) h
end anyx
/-- no dict lies within -/
def plainD (d : PyData) : Prop := d.hasDict = false
theorem dp_any {N : Addr → Prop} {H : Hp} {v : V} {d : PyData} (h : AnyAt N H v d) : d.hasDict = false → Dp K H v d :=
  AnyAt.rec (motive_1 := fun v d _ => d.hasDict = false → Dp K H v d) (motive_2 := fun vs ds _ => PyData.hasDictAll ds = false → DpAll K H vs ds) (fun _ => .non) (fun b _ => .bl b) (fun i _ => .int i) (fun x _ => .str x) (fun _ e _ ih g => .tup (SqT.of e) (ih (by simpa only [PyData.hasDict] using g))) (fun _ _ e _ ih g => .lst (.inl (.inl e)) (ih (by simpa only [PyData.hasDict] using g))) (fun _ _ g => by simp only [PyData.hasDict] at g; exact Bool.noConfusion g) (fun _ => .nil) (fun _ _ ih1 ih2 g => by
    simp only [PyData.hasDictAll, Bool.or_eq_false_iff] at g
    exact .cons (ih1 g.1) (ih2 g.2)) h
def tyD : PyData → Value
  | .none => .type "NoneType"
  | .bool _ => .type "bool"
  | .int _ => .type "int"
  | .str _ => .type "str"
  | .list _ => .type "list"
  | .tuple _ => .type "tuple"
  | .dict _ => .type "dict"
theorem ty_any {N : Addr → Prop} {H : Hp} {v : V} {d : PyData} (h : AnyAt N H v d) : TyX K H v (tyD d) := by
  cases h with
  | non => exact .base .non
  | bl b => exact .base (.bl b)
  | int i => exact .base (.int i)
  | str x => exact .base (.str x)
  | tup _ e _ => exact .base (.tup e)
  | lst _ _ e _ => exact .base (.lst e)
  | dic _ e => exact .base (.dK e)
def isInt : PyData → Bool
  | .int _ => true
  | _ => false
/-- is_whole of anything -/
def spWhA : Sp := fun vs H Q _ => ∃ (N : Addr → Prop) (x : V) (d : PyData), vs = [x] ∧ AnyAt N H x d ∧ Q (.bl (isInt d)) H
theorem ok_whA {f : Addr} {fd : FuncData} {k : Nat} (F : Fun K "is_whole" "is_whole" s_is_whole f fd) (mi : mg "isinstance" = none) (mI : mg "int" = none) (mB : mg "bool" = none) : FnOk P w K mg base CX0 (k + 1) f fd ["thing"] spWhA := by
  refine F.ok sc_is_whole (fun vs H Q E h => ?_) (fun cdv A outer s H vs Q E hr h => ?_)
  · obtain ⟨N, x, d, rfl, _⟩ := h
    rfl
  · obtain ⟨N, x, d, rfl, hx, q⟩ := h
    refine ⟨_, pss_one (ps_ret (pe_and (pe_callB call_isi (by rfl) mi (by decide +kernel) (pa_cons (pv 0) (pa_cons (pe_bltn (v := .ty "int") (by rfl) mI (by decide +kernel) rfl) pa_nil))) (pe_one (pe_not (pe_callB call_isi (by rfl) mi (by decide +kernel) (pa_cons (pv 0) (pa_cons (pe_bltn (v := .ty "bool") (by rfl) mB (by decide +kernel) rfl) pa_nil))))))), ?_⟩
    have ty := ty_any (K := K) hx
    cases d with
    | none => exact ⟨x, rfl, x, .ty "int", .type "NoneType", .type "int", false, rfl, .ty "int", ty, kit_ty (by decide +kernel), false, rfl, iteF q⟩
    | bool b => exact ⟨x, rfl, x, .ty "int", .type "bool", .type "int", true, rfl, .ty "int", ty, kit_ty (by decide +kernel), true, rfl, iteT ⟨x, rfl, x, .ty "bool", .type "bool", .type "bool", true, rfl, .ty "bool", ty, kit_ty (by decide +kernel), true, rfl, q⟩⟩
    | int i => exact ⟨x, rfl, x, .ty "int", .type "int", .type "int", true, rfl, .ty "int", ty, kit_ty (by decide +kernel), true, rfl, iteT ⟨x, rfl, x, .ty "bool", .type "int", .type "bool", false, rfl, .ty "bool", ty, kit_ty (by decide +kernel), false, rfl, q⟩⟩
    | str t => exact ⟨x, rfl, x, .ty "int", .type "str", .type "int", false, rfl, .ty "int", ty, kit_ty (by decide +kernel), false, rfl, iteF q⟩
    | list l => exact ⟨x, rfl, x, .ty "int", .type "list", .type "int", false, rfl, .ty "int", ty, kit_ty (by decide +kernel), false, rfl, iteF q⟩
    | tuple l => exact ⟨x, rfl, x, .ty "int", .type "tuple", .type "int", false, rfl, .ty "int", ty, kit_ty (by decide +kernel), false, rfl, iteF q⟩
    | dict l => exact ⟨x, rfl, x, .ty "int", .type "dict", .type "int", false, rfl, .ty "int", ty, kit_ty (by decide +kernel), false, rfl, iteF q⟩
/-! ### (rule, value) in what fits, of anything -/
theorem any_pair_tup {N : Addr → Prop} {H : Hp} {x y : V} {dx dy : PyData} {t : Addr} (hx : AnyAt N H x dx) (hy : AnyAt N H y dy) (nt : ¬ N t) (e : H t = some (.tup [x, y])) : AnyAt N H (.ref t) (.tuple [dx, dy]) := .tup nt e (.cons hx (.cons hy .nil))
section inany
variable {X : Cx}
/-- a pair (thing, number) in a list of pairs (text, number): data without dicts, or the thing a dict -/
def rInAny (K : PySem.W.Frag) : R2 := fun x y H Q => rInD K x y H Q ∨ ∃ (t e L : Addr) (v : Int) (as : List Addr) (l : List (Str × Int)) (kvs : List (Key × V)), x = .ref t ∧ y = .ref L ∧ H t = some (.tup [.ref e, .int v]) ∧ H e = some (.dK kvs) ∧ H L = some (.lst (as.map V.ref)) ∧ FtAt H as l ∧ Q (.bl false) H
theorem op_inAny (hu : X.A.units + 65 < cLine) : OpR X (compareOp .In) (rInAny X.K) := by
  intro pins s σ H x y v u Q I rx ry h
  rcases h with h | ⟨t, e, L, i, as, l, kvs, rfl, rfl, et, ee, eL, hf, q⟩
  · exact op_inD hu pins s σ H x y v u Q I rx ry h
  · cases rx
    cases ry
    obtain ⟨its, rv, hl, _⟩ := I.list (.inl (.inl eL))
    obtain ⟨its2, rv2, ht2, _⟩ := I.tuple (SqT.of et)
    obtain ⟨z1, z2, vs, hkv, od, en, ep, e1, e2, e3, e4, e5, e6⟩ := I.hok e _ ee
    refine SeqAt.in_listAt (fun _ => false) hl.isList (fun yv hy => ?_) ?_
    · -- each item is a pair of a text and a number
      have hy' : yv ∈ its := by simpa using hy
      obtain ⟨j, hj⟩ := List.mem_iff_getElem?.mp hy'
      have item : ∃ (b : Addr) (x : Str) (n : Int), yv = Value.ref b ∧ H b = some (.tup [.str x, .int n]) := by
        have key : ∀ {as : List Addr} {us : List Value} {l : List (Str × Int)}, FtAt H as l → Vals (as.map V.ref) us → ∀ y ∈ us, ∃ (b : Addr) (x : Str) (n : Int), y = Value.ref b ∧ H b = some (.tup [.str x, .int n]) := by
          intro as us l h
          induction h generalizing us with
          | nil => intro r; cases r; intro y hy; cases hy
          | @cons a b _ _ h t ih =>
            intro r
            cases r with
            | cons r rs =>
              intro y hy
              rcases List.mem_cons.mp hy with rfl | hy
              · exact ⟨a, b.1, b.2, r, h⟩
              · exact ih rs y hy
        exact key hf rv yv hy'
      obtain ⟨b, x, n, rfl, eb⟩ := item
      have nbt : b ≠ t := fun z => by rw [z, et] at eb; cases eb
      obtain ⟨its1, rv1, ht1, _⟩ := I.tuple (SqT.of eb)
      have one : ∀ {u : Value}, (∃ tk, u = Value.str x tk) → SeqAt.EqAt X.A.in1.in1 s u (.ref e) false := by
        rintro u ⟨tk, rfl⟩
        obtain ⟨oc, odd, dt, sl⟩ := od
        obtain ⟨c1, c2⟩ := e2
        simp only at c1 e3
        subst c1 e3
        exact eqAt_str_dict x tk e1 (by show X.A.units + 1 + 1 < cLine; omega)
      cases rv1 with
      | @cons _ u1 _ us1 r1 rs1 =>
        cases rs1 with
        | @cons _ u2 _ us2 r2 rs2 =>
          cases rs2
          cases rv2 with
          | @cons _ w1 _ ws1 q1 qs1 =>
            cases qs1 with
            | @cons _ w2 _ ws2 q2 qs2 =>
              cases qs2
              obtain rfl : w1 = Value.ref e := q1
              have hu1 : ∃ tk, u1 = Value.str x tk := r1
              refine SeqAt.EqAt.of_refs nbt ?_
              have := SeqAt.RcAt.tuples (A := X.A.in1) (s := s) (l := b) (b := t) (e := fun j => if j = 0 then false else (n == i)) ht1 ht2 (by show X.A.units + 1 < cLine; omega) (fun j j1 j2 => ?_)
              · simpa [List.range_succ] using this
              · have jj : j = 0 ∨ j = 1 := by
                  have : j < 2 := by simpa using j1
                  omega
                rcases jj with rfl | rfl
                · simpa using one hu1
                · obtain ⟨tk, rfl⟩ := r2
                  obtain ⟨tk', rfl⟩ := q2
                  have := SeqAt.EqAt.int_int (A := X.A.in1.in1) (s := s) n tk i tk'
                  simpa using this
    · have e0 : its.toArray.any (fun _ => false) = false := by simp
      rw [e0]
      exact ⟨.bl false, H, I, rfl, q⟩
end inany
/-! ### is_fitting, put_otherwise of anything -/
noncomputable def fitB (m : Nat) (ds : List Deed) (o : Int) (dx dy : PyData) : Bool := isInt dy && (fitL m ds o).any fun e => PyData.eqv (fD e) (.tuple [dx, dy])
theorem eqv_two (a b c d : PyData) : PyData.eqv (.tuple [a, b]) (.tuple [c, d]) = (PyData.eqv a c && PyData.eqv b d) := by
  have e : ∀ x y xs ys, PyData.eqvAll (x :: xs) (y :: ys) = (PyData.eqv x y && PyData.eqvAll xs ys) := fun _ _ _ _ => by rw [PyData.eqvAll]
  have e0 : PyData.eqvAll [] [] = true := by rw [PyData.eqvAll]
  have e1 : ∀ xs ys, PyData.eqv (.tuple xs) (.tuple ys) = PyData.eqvAll xs ys := fun _ _ => by rw [PyData.eqv]
  rw [e1, e, e, e0, Bool.and_true]
theorem eqv_pair (e : Str × Int) (dx : PyData) (v : Int) : PyData.eqv (fD e) (.tuple [dx, .int v]) = (PyData.eqv (.str e.1) dx && (e.2 == v)) := by
  have h2 : PyData.eqv (.int e.2) (.int v) = (e.2 == v) := by rw [PyData.eqv]
  unfold fD
  rw [eqv_two, h2]
theorem fitB_yes {m : Nat} {ds : List Deed} {o : Int} {dx dy : PyData} (h : fitB m ds o dx dy = true) : ∃ e ∈ fitL m ds o, dx = .str e.1 ∧ dy = .int e.2 := by
  unfold fitB at h
  rw [Bool.and_eq_true] at h
  obtain ⟨h1, h2⟩ := h
  cases dy with
  | int v =>
    obtain ⟨e, he, h3⟩ := List.any_eq_true.mp h2
    rw [eqv_pair, Bool.and_eq_true] at h3
    obtain ⟨h4, h5⟩ := h3
    have h5 : e.2 = v := by simpa using h5
    cases dx with
    | str t =>
      have : e.1 = t := by simpa [PyData.eqv] using h4
      exact ⟨e, he, by rw [this], by rw [h5]⟩
    | _ => simp [PyData.eqv] at h4
  | _ => exact Bool.noConfusion h1
theorem fitB_of {m : Nat} {ds : List Deed} {o : Int} {e : Str × Int} (he : e ∈ fitL m ds o) : fitB m ds o (.str e.1) (.int e.2) = true := by
  unfold fitB
  rw [Bool.and_eq_true]
  refine ⟨rfl, List.any_eq_true.mpr ⟨e, he, ?_⟩⟩
  rw [eqv_pair]
  simp [PyData.eqv]
/-- a thing that is asked about: small, and either without dicts or the empty one -/
structure OddOk (d : PyData) : Prop where
  nice : NcB 40 3 d
  kind : d = .dict [] ∨ (d.hasDict = false ∧ d.canLay0 = true)
theorem any_str {N : Addr → Prop} {H : Hp} {x : V} {t : Str} (h : AnyAt N H x (.str t)) : x = .str t := by cases h; rfl
theorem any_int {N : Addr → Prop} {H : Hp} {x : V} {i : Int} (h : AnyAt N H x (.int i)) : x = .int i := by cases h; rfl
def spIfA : Sp := fun vs H Q _ => ∃ (R : Addr) (m : Nat) (o : Int) (ds : List Deed) (N : Addr → Prop) (x y : V) (dx dy : PyData), vs = [.ref R, x, y] ∧ RowAt H R m ds o ∧ RowOk m ds o ∧ AnyAt N H x dx ∧ AnyAt N H y dy ∧ OddOk dx ∧ ∀ H', Same H H' → Q (.bl (fitB m ds o dx dy)) H'
theorem ok_ifA {f fW fF : Addr} {fd fdW fdF : FuncData} {k : Nat} (F : Fun K "is_fitting" "is_fitting" s_is_fitting f fd)
    (GW : FnOk P w K mg base CX0 (k + 1) fW fdW ["thing"] spWhA) (kW : PySem.W.keepIn K (.ref fW) = true) (bW : Binds K fdW ["thing"] []) (gW : mg "is_whole" = some (.ref fW))
    (GF : FnOk P w K mg base CX0 (k + 7) fF fdF ["row"] spFi) (kF : PySem.W.keepIn K (.ref fF) = true) (bF : Binds K fdF ["row"] []) (gF : mg "fitting" = some (.ref fF)) : FnOk P w K mg base CX0 (k + 8) f fd ["row", "rule", "value"] spIfA := by
  refine F.ok sc_is_fitting (fun vs H Q E h => ?_) (fun cdv A outer s H vs Q E hr h => ?_)
  · obtain ⟨R, m, o, ds, N, x, y, dx, dy, rfl, _⟩ := h
    rfl
  · obtain ⟨R, m, o, ds, N, x, y, dx, dy, rfl, hrow, ok, hx, hy, odd, q⟩ := h
    have r1 := hr.mono (show k + 1 ≤ k + 7 by omega)
    have hu65 := hu65_of hr
    refine ⟨_, pss_one (ps_ret (pe_and (pe_call GW r1 (by rfl) gW kW bW .nil pass0 (pa_cons (pv 2) pa_nil)) (pe_one (pe_cmpR (op_inAny hu65) (pe_tup (pa_cons (pv 1) (pa_cons (pv 2) pa_nil))) (pe_call GF hr (by rfl) gF kF bF .nil pass0 (pa_cons (pv 0) pa_nil)) (by rfl))))), ?_⟩
    refine ⟨y, rfl, N, y, dy, rfl, hy, ?_⟩
    cases hi : isInt dy with
    | false =>
      have : fitB m ds o dx dy = false := by unfold fitB; rw [hi]; rfl
      rw [this] at q
      exact ⟨_, rfl, iteF (q H (Same.refl H))⟩
    | true =>
      obtain ⟨v, rfl⟩ : ∃ v, dy = .int v := by
        cases dy with
        | int v => exact ⟨v, rfl⟩
        | _ => exact Bool.noConfusion hi
      obtain rfl := any_int hy
      refine ⟨_, rfl, iteT ?_⟩
      refine ⟨x, rfl, .int v, rfl, (by show 2 ≤ sizeLine; decide), fun T hT => ?_⟩
      have sT := same_new (o := .tup [x, .int v]) hT
      refine ⟨.ref R, rfl, R, m, o, ds, rfl, (Same.tups sT).row hrow, ok, fun H1 L ts s1 nL eL hts => ?_⟩
      have eT1 := s1 _ _ (show upd H T (.tup [x, .int v]) T = _ from upd_same)
      have hx1 := any_same (sT.trans s1) hx
      rcases odd.kind with rfl | ⟨h1, h2⟩
      · have : fitB m ds o (.dict []) (.int v) = false := by
          cases e : fitB m ds o (.dict []) (.int v) with
          | false => rfl
          | true =>
            obtain ⟨_, _, h, _⟩ := fitB_yes e
            cases h
        rw [this] at q
        cases hx1 with
        | dic _ e => exact .inr ⟨T, _, L, v, ts, fitL m ds o, _, rfl, rfl, eT1, e, eL, hts, q H1 (sT.trans s1)⟩
      · have sh : SeqAt.shaped (.tuple [dx, .int v]) = true := by
          have dd := odd.nice.dp
          have e1 : (PyData.tuple [dx, .int v]).canLay0 = true := by simp only [PyData.canLay0, PyData.canLayAll0, h2, Bool.and_true]
          have e2 : (PyData.tuple [dx, .int v]).depth ≤ 4 := by
            simp only [PyData.depth, PyData.depthAll]
            omega
          unfold SeqAt.shaped
          rw [e1, Bool.true_and]
          exact decide_eq_true (by omega)
        refine .inl ⟨.tuple [dx, .int v], (fitL m ds o).map fD, .tup (SqT.of eT1) (.cons (dp_any hx1 h1) (.cons (.int v) .nil)), .lst (.inl (.inl eL)) (dp_fDs hts), sh, shaped_fDs (fitL_wd m ds o), ?_⟩
        rw [List.any_map]
        have : fitB m ds o dx (.int v) = (fitL m ds o).any ((fun z => PyData.eqv z (.tuple [dx, .int v])) ∘ fD) := by
          unfold fitB
          rw [hi, Bool.true_and]
          rfl
        rw [← this]
        exact q H1 (sT.trans s1)
/-! ### bits of the first deeds (parts of sec_lst1) -/
theorem bts_pre : ∀ {ds : List Deed} {cs t : List Int}, (bts ds cs t).take t.length = t
  | [], cs, t => by cases cs <;> exact List.take_length
  | d :: ds, [], t => List.take_length
  | d :: ds, c :: cs, t => by
    have h := bts_pre (ds := ds) (cs := cs) (t := t ++ [dbitAt d c t])
    show (bts ds cs (t ++ [dbitAt d c t])).take t.length = t
    have h2 : ((bts ds cs (t ++ [dbitAt d c t])).take (t ++ [dbitAt d c t]).length).take t.length = t := by
      rw [h]
      exact List.take_left
    rw [List.take_take, List.length_append, Nat.min_eq_left (by omega)] at h2
    exact h2
theorem bts_app : ∀ {ds1 ds2 : List Deed} {cs1 cs2 t : List Int}, ds1.length = cs1.length → bts (ds1 ++ ds2) (cs1 ++ cs2) t = bts ds2 cs2 (bts ds1 cs1 t)
  | [], ds2, [], cs2, t, _ => by
    show bts ds2 cs2 t = bts ds2 cs2 (bts [] [] t)
    rfl
  | [], _, _ :: _, _, _, h => by simp at h
  | _ :: _, _, [], _, _, h => by simp at h
  | d :: ds1, ds2, c :: cs1, cs2, t, h => bts_app (ds1 := ds1) (ds2 := ds2) (cs1 := cs1) (cs2 := cs2) (t := t ++ [dbitAt d c t]) (by simpa using h)
theorem bts_at {ds : List Deed} {cs t : List Int} {i : Nat} (h : ds.length = cs.length) (hi : i ≤ ds.length) : bts (ds.take i) (cs.take i) t = (bts ds cs t).take (t.length + i) := by
  have l1 : (ds.take i).length = (cs.take i).length := by rw [List.length_take, List.length_take, h]
  have e : bts ds cs t = bts (ds.drop i) (cs.drop i) (bts (ds.take i) (cs.take i) t) := by rw [← bts_app l1, List.take_append_drop, List.take_append_drop]
  have l : (bts (ds.take i) (cs.take i) t).length = t.length + i := by rw [bts_len l1, List.length_take, Nat.min_eq_left hi]
  rw [e, ← l, bts_pre]
/-! ### k54: the row of a value's deeds alone -/
theorem nxt_take {m : Nat} {ds : List Deed} {cs told : List Int} {i : Nat} (ok : DsOk (m : Int) ds) (m1 : 1 ≤ m) (hi : i ≤ ds.length) (hc : cs.length = ds.length) (ht : told.length = m + ds.length) : nxt (ds.take i) (cs.take i) (told.take (m + i)) = (nxt ds cs told).take i := by
  apply List.ext_getElem?
  intro j
  unfold nxt
  rw [List.getElem?_zipWith, List.getElem?_take, List.getElem?_take, List.getElem?_take, List.getElem?_zipWith]
  by_cases hj : j < i
  · rw [if_pos hj, if_pos hj, if_pos hj]
    have e1 : ds[j]? = some (ds[j]'(by omega)) := List.getElem?_eq_getElem (by omega)
    have e2 : cs[j]? = some (cs[j]'(by omega)) := List.getElem?_eq_getElem (by omega)
    have okd := ok.each j _ e1
    have okd2 : DeedOk ((m + i : Nat) : Int) (ds[j]'(by omega)) := okd_more okd (by omega)
    rw [e1, e2]
    show some (dcarAt _ _ (told.take (m + i))) = some (dcarAt _ _ told)
    unfold dcarAt
    rw [arg_take okd2 (by omega) (by omega), arg_take okd2 (by omega) (by omega)]
  · rw [if_neg hj, if_neg hj, if_neg hj]
theorem dsOk_take {m : Int} {ds : List Deed} (h : DsOk m ds) (i : Nat) : DsOk m (ds.take i) := ⟨fun k d e => by
  rw [List.getElem?_take] at e
  by_cases hk : k < i
  · rw [if_pos hk] at e
    exact h.each k d e
  · rw [if_neg hk] at e
    cases e⟩
theorem cut_nxt {m : Nat} {ds : List Deed} {c bs : List Int} {i : Nat} (ok : DsOk (m : Int) ds) (m1 : 1 ≤ m) (hi : i ≤ ds.length) (hc : c.length = ds.length) (hb : bs.length = m) : nxt (ds.take i) (c.take i) (bts (ds.take i) (c.take i) bs) = (nxt ds c (bts ds c bs)).take i := by
  have e := bts_at (t := bs) hc.symm hi
  rw [e, hb]
  exact nxt_take ok m1 hi hc (by rw [bts_len hc.symm, hb])
theorem rch_cut {m : Nat} {ds : List Deed} {i : Nat} (ok : DsOk (m : Int) ds) (m1 : 1 ≤ m) (hi : i ≤ ds.length) {c : List Int} (h : Rch m ds c) : Rch m (ds.take i) (c.take i) := by
  induction h with
  | first =>
    rw [← List.map_take]
    exact .first
  | next hr hl hb ih =>
    rw [← cut_nxt ok m1 hi (rch_shp hr).len hl]
    exact .next ih hl hb
theorem rch_uncut {m : Nat} {ds : List Deed} {i : Nat} (ok : DsOk (m : Int) ds) (m1 : 1 ≤ m) (hi : i ≤ ds.length) {c' : List Int} (h : Rch m (ds.take i) c') : ∃ c, Rch m ds c ∧ c.take i = c' := by
  induction h with
  | first => exact ⟨_, .first, by rw [← List.map_take]⟩
  | next hr hl hb ih =>
    obtain ⟨c, h1, rfl⟩ := ih
    exact ⟨_, .next h1 hl hb, (cut_nxt ok m1 hi (rch_shp h1).len hl).symm⟩
theorem getD_take {l : List Int} {n j : Nat} (h : j < n) : (l.take n).getD j 0 = l.getD j 0 := by
  rw [List.getD_eq_getElem?_getD, List.getD_eq_getElem?_getD, List.getElem?_take, if_pos h]
theorem agv_cut {m : Nat} {ds : List Deed} {i j v : Nat} (ok : DsOk (m : Int) ds) (m1 : 1 ≤ m) (hi : i ≤ ds.length) (hj : j < m + i) (hv : v < m + i) : AgV m (ds.take i) j v ↔ AgV m ds j v := by
  have key : ∀ c, Rch m ds c → ∀ bs ∈ allB m, ∀ x, x < m + i → (bts (ds.take i) (c.take i) bs).getD x 0 = (bts ds c bs).getD x 0 := fun c hc bs hb x hx => by
    rw [bts_at (rch_shp hc).len.symm hi, (allB_ok m bs hb).1, getD_take hx]
  refine ⟨fun h c hc bs hb => ?_, fun h c' hc' bs hb => ?_⟩
  · rw [← key c hc bs hb j hj, ← key c hc bs hb v hv]
    exact h _ (rch_cut ok m1 hi hc) bs hb
  · obtain ⟨c, hc, rfl⟩ := rch_uncut ok m1 hi hc'
    rw [key c hc bs hb j hj, key c hc bs hb v hv]
    exact h c hc bs hb
/-! ### a truth in a list of truths -/
theorem inBl : ∀ l : List Bool, inV (.bl true) (l.map V.bl) = l.any id
  | [] => rfl
  | b :: l => by
    have ih := inBl l
    show (eqV (.bl b) (.bl true) || inV (.bl true) (l.map V.bl)) = _
    rw [ih]
    cases b <;> rfl
theorem flat_bls : ∀ l : List Bool, (l.map V.bl).all flatV = true
  | [] => rfl
  | _ :: l => by
    rw [List.map_cons, List.all_cons, flat_bls l]
    rfl
/-! ### k54: _law_used, _law_up_to -/
theorem ok_us {f : Addr} {fd : FuncData} {k : Nat} (F : Fun K "_law_used" "_law_used" s_law_used f fd) : FnOk P w K mg base CX0 (k + 1) f fd ["row", "value"] spHd := by
  refine F.ok sc_law_used (fun vs H Q E h => ?_) (fun cdv A outer s H vs Q E hr h => ?_)
  · obtain ⟨R, m, o, v, ds, rfl, _⟩ := h
    rfl
  · obtain ⟨R, m, o, v, ds, rfl, hrow, l100, q⟩ := h
    obtain ⟨D, rs, eR, eD, hd⟩ := id hrow
    refine ⟨_, pss_one (ps_ret (pe_or (pe_cmpR op_eq (pe_ix ix_tup (pv 0) pe_int (fun _ _ => rfl)) (pv 1) (nomark _)) (pe_one (pe_cmpR op_in_seq pe_bl
      (pe_lc (own := [("deed", 2)]) (g := gName 2) (by rfl) sc_law_used.nd (pi_tup (pe_ix ix_tup (pv 0) pe_int (fun _ _ => rfl))) (blkOk_by (own := [("deed", 2)]) (N := N_law_used) (sc := defScope s_law_used) (by decide +kernel))
        (fun _ _ _ _ _ => pg_name (i := 2) sc_law_used.nd rfl (Or.inl rfl)) (fun _ _ _ _ _ => pts_nil) (fun _ _ _ _ _ => pe_cmpR (r := rIn K false) op_in_seq (pv 1) (pe_slice (r := rSlT K) sl_tup (pv 2) (po_some pe_int) po_none) (by rfl))) (by rfl))))), ?_⟩
    unfold hadB at q
    refine ⟨.ref R, rfl, R, _, 2, .int o, rfl, rfl, SqT.of eR, rfl, .int v, rfl, rfl, _, rfl, ite2 (fun e => ?_) (fun e => ?_)⟩
    · have e' : v = o := (V.int.inj (of_decide_eq_true e)).symm
      rw [decide_eq_true e', Bool.true_or] at q
      exact q H (Same.refl H)
    have e' : ¬ v = o := fun z => e (decide_eq_true (congrArg V.int z.symm))
    rw [decide_eq_false e', Bool.false_or] at q
    refine ⟨.ref R, rfl, R, _, 1, .ref D, rfl, rfl, SqT.of eR, rfl, D, rfl, ⟨_, SqT.of eD⟩, fun C hC => ?_⟩
    have rl := awLen hd
    refine lc_tup (K := K) (a := D) (xs := rs.map V.ref) (fun j H4 => H4 C = some (.lst (((ds.take j).map fun d => decide (v ∈ d.2)).map V.bl)) ∧ Same H H4) ⟨upd_same, same_new hC⟩ (fun j H4 _ hp => SqT.of (hp.2 _ _ eD)) (fun j x H4 hx hp => ?_) (fun H4 hp => ?_)
    · obtain ⟨eC, s4⟩ := hp
      rw [List.getElem?_map] at hx
      obtain ⟨r, hr', rfl⟩ := Option.map_eq_some_iff.mp hx
      obtain ⟨d, hd1, hd2⟩ := awGet hd hr'
      refine ⟨rfl, .int v, rfl, .ref r, rfl, 1, rfl, r, dV d, rfl, SqT.of (s4 _ _ hd2), notWhole _ _, fun T hT => ?_⟩
      have eT : cutV (dV d) (some 1) none = d.2.map V.int := cutTail _ _
      rw [eT]
      have sT := same_new (o := .tup (d.2.map V.int)) hT
      refine ⟨T, d.2.map V.int, rfl, .inr (SqT.of upd_same), rfl, flat_ints _, ?_⟩
      have eCT := sT _ _ eC
      refine ⟨_, eCT, ?_, ?_, fun b u e => ?_⟩
      · rw [List.length_map, List.length_map, List.length_take]
        exact small1000 (by omega)
      · rw [upd_same, List.take_add_one, hd1, List.map_append, List.map_append]
        show some (HO.lst (_ ++ [V.bl (if false = true then !inV (V.int v) (d.2.map V.int) else inV (V.int v) (d.2.map V.int))])) = some (HO.lst (_ ++ [V.bl (decide (v ∈ d.2))]))
        rw [if_neg Bool.false_ne_true, inI]
      · rw [upd_ne (ne_of_none e hC)]
        exact sT _ _ (s4 b u e)
    · obtain ⟨eC, s4⟩ := hp
      rw [List.length_map, rl, List.take_length] at eC
      refine ⟨C, _, rfl, .inl (.inl (.inl eC)), rfl, flat_bls _, ?_⟩
      show Q (.bl (inV (.bl true) ((ds.map fun d => decide (v ∈ d.2)).map V.bl))) H4
      rw [inBl, List.any_map]
      exact q H4 s4
def spUt : Sp := fun vs H Q _ => ∃ (R : Addr) (m v : Nat) (o : Int) (ds : List Deed), vs = [.ref R, .int (v : Int)] ∧ RowAt H R m ds o ∧ RowOk m ds o ∧ m ≤ v ∧ v < m + ds.length ∧ ∀ H' R', Same H H' → RowAt H' R' m (ds.take (v - m + 1)) v → Q (.ref R') H'
theorem ok_ut {f : Addr} {fd : FuncData} {k : Nat} (F : Fun K "_law_up_to" "_law_up_to" s_law_up_to f fd) (mx : mg "max" = none) : FnOk P w K mg base CX0 (k + 1) f fd ["row", "value"] spUt := by
  refine F.ok sc_law_up_to (fun vs H Q E h => ?_) (fun cdv A outer s H vs Q E hr h => ?_)
  · obtain ⟨R, m, v, o, ds, rfl, _⟩ := h
    rfl
  · obtain ⟨R, m, v, o, ds, rfl, hrow, ok, mv, vl, q⟩ := h
    obtain ⟨D, rs, eR, eD, hd⟩ := id hrow
    refine ⟨_, pss_cons (ps_set (i := 2) sc_law_up_to.nd rfl (.inl rfl) (pe_slice sl_tupZ (pe_ix ix_tup (pv 0) pe_int (fun _ _ => rfl)) po_none (po_some (pe_callB (call_max2 rfl) (by rfl) mx (by decide +kernel) (pa_cons pe_int (pa_cons (pe_op op_add (pe_op op_sub (pv 1) (pe_ix ix_tup (pv 0) pe_int (fun _ _ => rfl))) pe_int) pa_nil))))))
    (pss_one (ps_ret (pe_tup (pa_cons (pe_ix ix_tup (pv 0) pe_int (fun _ _ => rfl)) (pa_cons (pv 2) (pa_cons (pv 1) pa_nil)))))), ?_⟩
    refine ⟨.ref R, rfl, R, _, 1, .ref D, rfl, rfl, SqT.of eR, rfl, .int (v : Int), rfl, .ref R, rfl, R, _, 0, .int (m : Int), rfl, rfl, SqT.of eR, rfl, (v : Int), (m : Int), rfl, rfl, _, 1, rfl, rfl, 0, _, rfl, ((v - m + 1 : Nat) : Int), ?_, D, _, rfl, eD, fun p H2 s2 e2 => ?_⟩
    · rw [if_pos (by omega)]
      congr 1
      omega
    · have e3 : cutV (rs.map V.ref) none (some ((v - m + 1 : Nat) : Int)) = (rs.take (v - m + 1)).map V.ref := by rw [cut_take, List.map_take]
      rw [e3] at e2
      refine ⟨.ref R, rfl, R, _, 0, .int (m : Int), rfl, rfl, SqT.of (s2 _ _ eR), rfl, .ref p, rfl, .int (v : Int), rfl, (by show 3 ≤ sizeLine; decide), fun R' hR' => ?_⟩
      have sR := same_new (o := .tup [.int (m : Int), .ref p, .int (v : Int)]) hR'
      exact q _ R' (s2.trans sR) ⟨p, _, upd_same, sR _ _ e2, aw_take _ (awMap (fun _ _ e => sR _ _ (s2 _ _ e)) hd)⟩
/-! ### k54: _law_one_worth -/
/-- the walk, its first n carries gone through, parts nothing -/
structure OwW (m : Nat) (ds : List Deed) (v j : Nat) (cs : List (List Int)) (n : Nat) : Prop where
  nd : cs.Nodup
  rch : ∀ c ∈ cs, Rch m ds c
  fst : ds.map fcD ∈ cs
  cl : ∀ i c, i < n → cs[i]? = some c → ∀ bs ∈ allB m, nxt ds c (bts ds c bs) ∈ cs ∧ (bts ds c bs).getD v 0 = (bts ds c bs).getD j 0
theorem OwW.all {m : Nat} {ds : List Deed} {v j : Nat} {cs : List (List Int)} {n : Nat} (h : OwW m ds v j cs n) (hn : cs.length ≤ n) : AgV m ds j v := by
  have mem : ∀ c, Rch m ds c → c ∈ cs := fun c hr => by
    induction hr with
    | first => exact h.fst
    | next hr hl hb ih =>
      obtain ⟨i, hi⟩ := List.mem_iff_getElem?.mp ih
      exact (h.cl i _ (by have := (List.getElem?_eq_some_iff.mp hi).1; omega) hi _ (allB_all m _ hl hb)).1
  intro c hc bs hb
  obtain ⟨i, hi⟩ := List.mem_iff_getElem?.mp (mem c hc)
  exact (h.cl i _ (by have := (List.getElem?_eq_some_iff.mp hi).1; omega) hi _ hb).2.symm
open Classical in
noncomputable def spOw : Sp := fun vs H Q _ => ∃ (R : Addr) (m v j : Nat) (o : Int) (ds : List Deed), vs = [.ref R, .int (v : Int), .int (j : Int)] ∧ RowAt H R m ds o ∧ RowOk m ds o ∧ m ≤ v ∧ v < m + ds.length ∧ j < v ∧ ∀ H', Same H H' → Q (.bl (decide (AgV m ds j v))) H'
open Classical in
set_option maxHeartbeats 2000000 in
theorem ok_ow {f fU fF fB fS : Addr} {fd fdU fdF fdB fdS : FuncData} {k : Nat} (F : Fun K "_law_one_worth" "_law_one_worth" s_law_one_worth f fd)
    (GU : FnOk P w K mg base CX0 (k + 1) fU fdU ["row", "value"] spUt) (kU : PySem.W.keepIn K (.ref fU) = true) (bU : Binds K fdU ["row", "value"] []) (gU : mg "_law_up_to" = some (.ref fU))
    (GF : FnOk P w K mg base CX0 (k + 1) fF fdF ["row"] spFc) (kF : PySem.W.keepIn K (.ref fF) = true) (bF : Binds K fdF ["row"] []) (gF : mg "_law_first" = some (.ref fF))
    (GB : FnOk P w K mg base CX0 (k + 1) fB fdB ["many"] spAbf) (kB : PySem.W.keepIn K (.ref fB) = true) (bB : Binds K fdB ["many"] []) (gB : mg "_law_bits" = some (.ref fB))
    (GS : FnOk P w K mg base CX0 (k + 2) fS fdS ["row", "carry", "bits"] spLs) (kS : PySem.W.keepIn K (.ref fS) = true) (bS : Binds K fdS ["row", "carry", "bits"] []) (gS : mg "_law_step" = some (.ref fS))
    (mn : mg "len" = none) (mx : mg "max" = none) : FnOk P w K mg base CX0 (k + 3) f fd ["row", "one", "other"] spOw := by
  refine F.ok sc_law_one_worth (fun vs H Q E h => ?_) (fun cdv A outer s H vs Q E hr h => ?_)
  · obtain ⟨R, m, v, j, o, ds, rfl, _⟩ := h
    rfl
  · obtain ⟨R, m, v, j, o, ds0, rfl, hrow0, hok, mv, vl, jv, qq⟩ := h
    obtain ⟨D0, rs0, eR0, _, _⟩ := id hrow0
    have r1 := hr.mono (show k + 1 ≤ k + 2 by omega)
    have hu := hu_of hr
    have hu65 := hu65_of hr
    refine ⟨_, pss_cons (ps_set (i := 3) sc_law_one_worth.nd rfl (.inl rfl) (pe_call GU r1 (by rfl) gU kU bU .nil pass0 (pa_cons (pv 0) (pa_cons (pe_callB (call_max2 rfl) (by rfl) mx (by decide +kernel) (pa_cons (pv 1) (pa_cons (pv 2) pa_nil))) pa_nil))))
    (pss_cons (ps_set (i := 4) sc_law_one_worth.nd rfl (.inl rfl) (pe_lst (pa_cons (pe_call GF r1 (by rfl) gF kF bF .nil pass0 (pa_cons (pv 3) pa_nil)) pa_nil)))
    (pss_cons (ps_set (i := 5) sc_law_one_worth.nd rfl (.inl rfl) pe_int)
    (pss_cons (ps_while PassesOwn.never (pt_cmpR op_lt (pv 5) (pe_callB call_len_seq (by rfl) mn PySem.boot_len (pa_cons (pv 4) pa_nil)) (nomark _))
    (pss_cons (ps_for PassesOwn.never rfl (pi_list (pe_call GB r1 (by rfl) gB kB bB .nil pass0 (pa_cons (pe_ix ix_tup (pv 0) pe_int (fun _ _ => rfl)) pa_nil))) (pg_name (i := 6) sc_law_one_worth.nd rfl (.inl rfl))
    (pss_cons (ps_asg (pe_call GS hr (by rfl) gS kS bS .nil pass0 (pa_cons (pv 3) (pa_cons (pe_ix ix_list (pv 4) (pv 5) (fun _ _ => rfl)) (pa_cons (pv 6) pa_nil)))) (pg_tup rfl (pgs_cons (pg_name (i := 7) sc_law_one_worth.nd rfl (.inl rfl)) (pgs_cons (pg_name (i := 8) sc_law_one_worth.nd rfl (.inl rfl)) pgs_nil))))
    (pss_cons (ps_if (pt_cmpR op_ne (pe_ix ix_tup (pv 7) (pv 1) (fun _ _ => rfl)) (pe_ix ix_tup (pv 7) (pv 2) (fun _ _ => rfl)) (nomark _))
    (pss_one (ps_ret pe_bl))
    pss_nil)
    (pss_one (ps_if (pt_cmpR (op_notInD hu65) (pv 8) (pv 4) (by rfl))
    (pss_one (ps_expr (pe_bm PySem.F.plainAttrs_list PySem.F.slot_list_append PySem.F.type_list_append mt_append (pv 4) (pa_cons (pv 8) pa_nil))))
    pss_nil)))))
    (pss_one (ps_set (i := 5) sc_law_one_worth.nd rfl (.inl rfl) (pe_op op_add (pv 5) pe_int)))))
    (pss_one (ps_ret pe_bl))))), ?_⟩
    have l8' := hok.len
    have m1 := hok.m1
    have m3 := hok.m3
    have m1' : 1 ≤ m := by omega
    have il : v - m + 1 ≤ ds0.length := by omega
    have okc := dsOk_take hok.deeds (v - m + 1)
    refine ⟨.ref R, rfl, .int (v : Int), rfl, .int (j : Int), rfl, (v : Int), (j : Int), rfl, R, m, v, o, ds0, by rw [if_neg (by omega)]; rfl, hrow0, hok, mv, vl, fun H1 R1 s1 hrow => ?_⟩
    have key : AgV m (ds0.take (v - m + 1)) j v ↔ AgV m ds0 j v := agv_cut hok.deeds m1' il (by omega) (by omega)
    have dl : (ds0.take (v - m + 1)).length = v - m + 1 := by rw [List.length_take]; omega
    obtain ⟨ds, hds⟩ : ∃ ds, ds = ds0.take (v - m + 1) := ⟨_, rfl⟩
    rw [← hds] at hrow key dl okc
    have l8 : ds.length ≤ 8 := by omega
    have yes : AgV m ds j v → ∀ H', Same H H' → Q (.bl true) H' := fun h H' s => by
      have := qq H' s
      rwa [decide_eq_true (key.mp h)] at this
    have no : ¬ AgV m ds j v → ∀ H', Same H H' → Q (.bl false) H' := fun h H' s => by
      have := qq H' s
      rwa [decide_eq_false (fun z => h (key.mpr z))] at this
    obtain ⟨D, rs, eR, eD, hd⟩ := id hrow
    refine ⟨.ref R1, rfl, R1, m, v, ds, rfl, hrow, by omega, fun H2 Fi s2 nFi eFi => ?_⟩
    refine ⟨(by show 1 ≤ sizeLine; decide), fun Fo hFo => ?_⟩
    have sFo := same_new (o := .lst [.ref Fi]) hFo
    have s1o := s1.trans (s2.trans sFo)
    have hFo0 : H Fo = none := (s1.trans s2).free hFo
    have p8 : 2 ^ m ≤ 8 := Nat.le_trans (Nat.pow_le_pow_right (by decide) (show m ≤ 3 by omega)) (by decide)
    have shp : ∀ {cs : List (List Int)}, (∀ c ∈ cs, Rch m ds c) → ∀ c ∈ cs, c.length = ds.length ∧ ∀ x ∈ c, Bit x := fun h c hc => ⟨(rch_shp (h c hc)).len, (rch_shp (h c hc)).bits⟩
    have eFi2 := sFo _ _ eFi
    have hrow2 := (Same.tups (s2.trans sFo)).row hrow
    refine ⟨fun n σ H4 => ∃ (y6 y7 y8 : Option V) (as : List Addr) (cs : List (List Int)) (a : Nat), σ = [some (.ref R), some (.int (v : Int)), some (.int (j : Int)), some (.ref R1), some (.ref Fo), some (.int a), y6, y7, y8] ∧ H4 Fo = some (.lst (as.map V.ref)) ∧ TAt H4 as cs ∧ OwW m ds v j cs a ∧ a ≤ cs.length ∧ RowAt H4 R1 m ds v ∧ Same H H4 ∧ n = 257 - a,
      ⟨_, none, none, none, [Fi], [ds.map fcD], 0, rfl, upd_same, .cons eFi2 .nil, ⟨by simp, fun c hc => by rw [List.mem_singleton.mp hc]; exact .first, List.mem_cons_self, fun i c hi => absurd hi (Nat.not_lt_zero _)⟩, Nat.zero_le _, hrow2, s1o, rfl⟩, fun n σ H4 hp => ?_⟩
    obtain ⟨y6, y7, y8, as, cs, a, rfl, eFo, hT, aw, al, hrow4, s4, rfl⟩ := hp
    have asl := awLen hT
    have few := few_of54 aw.nd (shp aw.rch) l8
    refine ⟨.int a, rfl, .ref Fo, rfl, Fo, _, rfl, .inl (.inl (.inl eFo)), _, _, rfl, rfl, _, rfl, ite2 (fun e => ?_) (fun e => ?_)⟩
    · have lt : a < cs.length := by
        have := of_decide_eq_true e
        rw [List.length_map] at this
        omega
      refine ⟨fun σ' H' => ∃ m', m' < 257 - a ∧ (∃ (y6 y7 y8 : Option V) (as : List Addr) (cs : List (List Int)) (a : Nat), σ' = [some (.ref R), some (.int (v : Int)), some (.int (j : Int)), some (.ref R1), some (.ref Fo), some (.int a), y6, y7, y8] ∧ H' Fo = some (.lst (as.map V.ref)) ∧ TAt H' as cs ∧ OwW m ds v j cs a ∧ a ≤ cs.length ∧ RowAt H' R1 m ds v ∧ Same H H' ∧ m' = 257 - a), fun σ' H' z => z, ?_⟩
      refine ⟨.ref R, rfl, R, _, 0, .int (m : Int), rfl, rfl, SqT.of (s4 _ _ eR0), rfl, m, rfl, by omega, by omega, fun H5 Bl fs s5 nB eB hfs => ?_⟩
      have s05 := s4.trans s5
      have fl : fs.length = 2 ^ m := by rw [awLen hfs, allB_len]
      have nBF : Bl ≠ Fo := fun z => by rw [z, eFo] at nB; cases nB
      have hc0 : cs[a]? = some (cs[a]'lt) := List.getElem?_eq_getElem lt
      obtain ⟨c0, hc0'⟩ : ∃ c0, c0 = cs[a]'lt := ⟨_, rfl⟩
      rw [← hc0'] at hc0
      have rc0 := aw.rch c0 (List.mem_of_getElem? hc0)
      obtain ⟨c0l, c0b⟩ := shp aw.rch c0 (List.mem_of_getElem? hc0)
      refine ⟨Bl, rfl, ⟨_, .inl (.inl eB)⟩, for_list (K := K) (a := Bl) (xs := fs.map V.ref) (fun t σ H6 => ∃ (y6 y7 y8 : Option V) (as' : List Addr) (cs' : List (List Int)), σ = [some (.ref R), some (.int (v : Int)), some (.int (j : Int)), some (.ref R1), some (.ref Fo), some (.int a), y6, y7, y8] ∧ H6 Fo = some (.lst (as'.map V.ref)) ∧ TAt H6 as' cs' ∧ (∃ more, cs' = cs ++ more) ∧ cs'.Nodup ∧ (∀ c ∈ cs', Rch m ds c) ∧ (∀ bs ∈ (allB m).take t, nxt ds c0 (bts ds c0 bs) ∈ cs' ∧ (bts ds c0 bs).getD v 0 = (bts ds c0 bs).getD j 0) ∧ ∀ b u, b ≠ Fo → H5 b = some u → H6 b = some u)
        ⟨y6, y7, y8, as, cs, rfl, s5 _ _ eFo, tat_stay (Same.tups s5) hT, ⟨[], (List.append_nil _).symm⟩, aw.nd, aw.rch, (fun bs hb => by rw [List.take_zero] at hb; cases hb), fun _ _ _ z => z⟩ (fun t σ H6 _ hp => ?_) (fun t x σ H6 hx hp => ?_) (fun σ H6 hp => ?_)⟩
      · obtain ⟨_, _, _, _, _, _, _, _, _, _, _, _, st⟩ := hp
        exact .inl (.inl (st _ _ nBF eB))
      · obtain ⟨y6, y7, y8, as', cs', rfl, eFo6, hT6, ⟨more, pre⟩, nd6, rch6, su6, st⟩ := hp
        rw [List.getElem?_map] at hx
        obtain ⟨b, hb, rfl⟩ := Option.map_eq_some_iff.mp hx
        obtain ⟨bs, hbs, eb⟩ := awGet hfs hb
        have hbm := List.mem_of_getElem? hbs
        obtain ⟨bl, bb⟩ := allB_ok m bs hbm
        have s06 : Same H H6 := fun b u z => st b u (ne_of_none z hFo0) (s05 _ _ z)
        have ts56 : TupsStay H5 H6 := fun b xs z => st b _ (ne_of z (s5 _ _ eFo) (fun y => nomatch y)) z
        have hrow6 := (Same.tups s5).row hrow4
        obtain ⟨ca, hca, eca⟩ := awGet2 hT6 (show cs'[a]? = some c0 by rw [pre, List.getElem?_append_left lt]; exact hc0)
        have a6l := awLen hT6
        have few6 := few_of54 nd6 (shp rch6) l8
        obtain ⟨nx, hnx⟩ : ∃ nx, nx = nxt ds c0 (bts ds c0 bs) := ⟨_, rfl⟩
        have rnx : Rch m ds nx := by
          rw [hnx]
          exact .next rc0 bl bb
        have tk : (allB m).take (t + 1) = (allB m).take t ++ [bs] := by
          rw [List.take_add_one, hbs]
          rfl
        have tl : (bts ds c0 bs).length = m + ds.length := by rw [bts_len c0l.symm, bl]
        refine ⟨.ref R1, rfl, .ref Fo, rfl, .int a, rfl, Fo, _, _, .ref ca, rfl, rfl, .inl (.inl eFo6), atI_nat (by rw [List.getElem?_map, hca]; rfl), .ref b, rfl, R1, ca, b, m, v, ds, c0, bs, rfl, ts56.row hrow6, okc, by omega, eca, c0l, ts56 _ _ eb, by rw [bl], by omega, c0b, bb, fun H7 p5 A2 B2 s7 ep eA eB7 => ?_⟩
        rw [← hnx] at eB7
        have eFo7 := s7 _ _ eFo6
        have hT7 := tat_stay (Same.tups s7) hT6
        have st7 : ∀ b u, b ≠ Fo → H5 b = some u → H7 b = some u := fun b u n1 z => s7 _ _ (st b u n1 z)
        refine ⟨p5, [.ref A2, .ref B2], rfl, .inl (.inl ep), rfl, .ref A2, [.ref B2], rfl, .ref B2, [], rfl, rfl, ?_⟩
        refine ⟨.ref A2, rfl, .int (v : Int), rfl, A2, _, (v : Int), .int ((bts ds c0 bs).getD v 0), rfl, rfl, SqT.of eA, atI_ints (by omega) (by omega), .ref A2, rfl, .int (j : Int), rfl, A2, _, (j : Int), .int ((bts ds c0 bs).getD j 0), rfl, rfl, SqT.of eA, atI_ints (by omega) (by omega), rfl, _, rfl, ite2 (fun e => ?_) (fun e => ?_)⟩
        · have ne : ¬ (bts ds c0 bs).getD v 0 = (bts ds c0 bs).getD j 0 := fun z => by
            rw [z] at e
            simp at e
          exact no (fun h => ne (h c0 rc0 bs hbm).symm) H7 (s06.trans s7)
        have eq : (bts ds c0 bs).getD v 0 = (bts ds c0 bs).getD j 0 := by
          by_cases z : (bts ds c0 bs).getD v 0 = (bts ds c0 bs).getD j 0
          · exact z
          · exact absurd (by simpa using z) e
        have grow : ∀ cs2 : List (List Int), (∀ c ∈ cs', c ∈ cs2) → nx ∈ cs2 → ∀ b2 ∈ (allB m).take (t + 1), nxt ds c0 (bts ds c0 b2) ∈ cs2 ∧ (bts ds c0 b2).getD v 0 = (bts ds c0 b2).getD j 0 := fun cs2 sub hn b2 hb2 => by
          rw [tk] at hb2
          rcases List.mem_append.mp hb2 with hb2 | hb2
          · exact ⟨sub _ (su6 b2 hb2).1, (su6 b2 hb2).2⟩
          · rw [List.mem_singleton.mp hb2, ← hnx]
            exact ⟨hn, eq⟩
        refine ⟨.ref B2, rfl, .ref Fo, rfl, cD nx, cs'.map cD, dp_cD eB7, .lst (.inl (.inl eFo7)) (dp_cDs hT7), shaped_cD _, shaped_cDs _, _, rfl, ?_⟩
        rw [any_cD]
        refine ite2 (fun e2 => ?_) (fun e2 => ?_)
        · have hin : nx ∉ cs' := by simpa using e2
          have tF := tups_put (o := .lst (as'.map V.ref ++ [V.ref B2])) eFo7
          refine ⟨.ref Fo, rfl, .inl ⟨rfl, _, .inl (.inl eFo7)⟩, .ref B2, rfl, Fo, _, _, rfl, rfl, eFo7, (by rw [List.length_map]; exact small1000 (by omega)), ?_⟩
          refine ⟨_, _, _, as' ++ [B2], cs' ++ [nx], rfl, (by rw [upd_same, List.map_append]; rfl), tat_stay tF (awSnoc (F := fun (f : Addr) (b : List Int) => H7 f = some (.tup (b.map V.int))) eB7 hT7), ⟨more ++ [nx], by rw [pre, List.append_assoc]⟩, ?_, fun c hc => ?_, grow _ (fun c z => List.mem_append_left _ z) (List.mem_append_right _ List.mem_cons_self), fun b u n1 z => ?_⟩
          · exact List.nodup_append.mpr ⟨nd6, by simp, fun x hx y hy e => hin (by rw [List.mem_singleton.mp hy] at e; exact e ▸ hx)⟩
          · rcases List.mem_append.mp hc with hc | hc
            · exact rch6 c hc
            · rw [List.mem_singleton.mp hc]
              exact rnx
          · rw [upd_ne n1]
            exact st7 b u n1 z
        · have hin : nx ∈ cs' := by simpa using e2
          exact ⟨_, _, _, as', cs', rfl, eFo7, hT7, ⟨more, pre⟩, nd6, rch6, grow cs' (fun _ z => z) hin, st7⟩
      · obtain ⟨y6, y7, y8, as', cs', rfl, eFo6, hT6, ⟨more, pre⟩, nd6, rch6, su6, st⟩ := hp
        rw [List.length_map, fl, ← allB_len m, List.take_length] at su6
        have ts56 : TupsStay H5 H6 := fun b xs z => st b _ (ne_of z (s5 _ _ eFo) (fun y => nomatch y)) z
        refine ⟨.int a, rfl, a, 1, rfl, rfl, 257 - (a + 1), by omega, y6, y7, y8, as', cs', a + 1, rfl, eFo6, hT6, ⟨nd6, rch6, by rw [pre]; exact List.mem_append_left _ aw.fst, fun i c hi hc => ?_⟩, by rw [pre, List.length_append]; omega, ts56.row ((Same.tups s5).row hrow4), fun b u z => st b u (ne_of_none z hFo0) (s05 _ _ z), rfl⟩
        by_cases c1 : i = a
        · have : cs'[a]? = some c0 := by rw [pre, List.getElem?_append_left lt]; exact hc0
          rw [c1, this] at hc
          rw [← Option.some.inj hc]
          exact su6
        · have lt2 : i < cs.length := by omega
          rw [pre, List.getElem?_append_left lt2] at hc
          intro b2 hb2
          rw [pre]
          have := aw.cl i c (by omega) hc b2 hb2
          exact ⟨List.mem_append_left _ this.1, this.2⟩
    · have ge : cs.length ≤ a := by
        have : ¬ ((a : Int) < ((as.map V.ref).length : Int)) := fun z => e (decide_eq_true z)
        rw [List.length_map] at this
        omega
      exact yes (aw.all ge) H4 s4
/-! ### enumerate of a tuple -/
section enumt
set_option maxHeartbeats 1000000 in
theorem meets_enum1 {v : Value} {o : Obj} {H : Heap → Prop} (B : Begins v o H) :
    Meets (Builtin.«enumerate.__new__» ⟨[.type "enumerate", v], []⟩) (fun _ R s => H s.heap ∧
      R (.ok (.ret (.ref (s.heap.push o).objs.size))) { s with heap := (s.heap.push o).push { cls := .type "enumerate", data := .fields #[.none, .bool false, .ref s.heap.objs.size, rawInt 0, .none, .none] } }) :=
  .of_wp fun prog w A R s h => by
    obtain ⟨hp, g, d, tk, os⟩ := s; obtain ⟨h1, h⟩ := h
    have hsub := sub_enumerate
    have q1 : ∀ {A' : Around} {E : Value → Shared → Prop} {Q : Value → Shared → Prop}, Q (.ref hp.objs.size) ⟨hp.push o, g, d, tk, os⟩ → wpAny (model prog w) A' (pyIter v) Q E ⟨hp, g, d, tk, os⟩ :=
      fun q => B.iter prog w _ _ ⟨hp, g, d, tk, os⟩ _ h1 q
    wp_walk using q1
    refine wpAny_stack_any fun st => wpAny_pure ?_
    split
    · rename_i c _ _ _ _ _
      cases (c == Value.type "enumerate")
      · wp_walk using q1
        exact ⟨_, rfl, h⟩
      · wp_walk using q1
        exact ⟨_, rfl, h⟩
    · wp_walk using q1
      exact ⟨_, rfl, h⟩
theorem enum1 {prog : Program} {w : World} {A : Around} {E : Value → Shared → Prop} {s : Shared} {v : Value} {o : Obj} {H : Heap → Prop} {Q : Value → Shared → Prop} (B : Begins v o H) (h1 : H s.heap)
    (h : ∀ h', IsEnum h' (s.heap.objs.size + 1) s.heap.objs.size 0 .none → h'.get? s.heap.objs.size = some o → h'.objs.size = s.heap.objs.size + 2 →
      (∀ b o, s.heap.get? b = some o → h'.get? b = some o) → Q (.ref (s.heap.objs.size + 1)) { s with heap := h' }) :
    wpAny (model prog w) A (call (.type "enumerate") [v]) Q E s := by
  refine callType_new F.called_enumerate (by decide) (F.typeCall_enumerate_1 _) (F.newCall_enumerate_1 _) (fun obj => F.args_object_init_2 obj _) F.entry_enumerate_new
    (meets_enum1 B) ⟨h1, ?_⟩
  have hz : (s.heap.push o).objs.size = s.heap.objs.size + 1 := Heap.size_push ..
  show _ ∧ _
  rw [hz]
  have he : IsEnum ((s.heap.push o).push { cls := .type "enumerate", data := .fields #[.none, .bool false, .ref s.heap.objs.size, rawInt 0, .none, .none] }) (s.heap.objs.size + 1) s.heap.objs.size 0 .none := by
    have := Heap.get?_push_size (s.heap.push o) (o := { cls := .type "enumerate", data := .fields #[.none, .bool false, .ref s.heap.objs.size, rawInt 0, .none, .none] }) rfl
    rw [hz] at this; exact this
  refine ⟨⟨_, he, rfl⟩, h _ he (Heap.get?_push_of_some _ (Heap.get?_push_size _ B.free)) (by rw [Heap.size_push, hz]) fun b o x => Heap.get?_push_of_some _ (Heap.get?_push_of_some _ x)⟩
def IteT (K : PySem.W.Frag) (a : Addr) : It :=
  ⟨fun i H => ∃ (xs : List V) (x : V), SqT K H a xs ∧ xs[i]? = some x, fun i H v H' => ∃ T x, v = .ref T ∧ H T = none ∧ H' = upd H T (.tup [.int (i : Nat), x]) ∧ ∀ xs, SqT K H a xs → xs[i]? = some x, fun i H => ∃ xs : List V, SqT K H a xs ∧ xs.length = i⟩
theorem turn_enumT {elts : List Expr} {kk : Nat} {tpos : Pos} (a e it : Addr) (na : a ≠ it) (ne : e ≠ a) :
    Turn P w K (.Tuple elts kk tpos) (IteT K a) [e, it] e (fun i h => (∃ old, IsEnum h e it ((i : Nat) : Int) old) ∧ h.IsTupleIter it a i ∧ e ≠ it) where
  mem := by simp
  obj := fun i h st b hb => by
    obtain ⟨⟨old, he⟩, ⟨o, ho, hc, hd⟩, _⟩ := st
    have e' : b = e ∨ b = it := by simpa using hb
    rcases e' with z | z
    · rw [z]; exact ⟨_, he, fun v q => nomatch q⟩
    · rw [z]; exact ⟨o, ho, fun v q => by rw [hd] at q; cases q⟩
  keep := fun i h h' st k => let ⟨⟨old, he⟩, hi, hne⟩ := st; ⟨⟨old, k e (by simp) _ he⟩, hi.at fun o q => k it (by simp) o q, hne⟩
  item := by
    intro X hP hw hK hc i pins s σ H E I hf st hg
    subst hP hw hK
    obtain ⟨⟨old, he⟩, hit, hne⟩ := st
    obtain ⟨xs, x, hq, hx⟩ := hg
    obtain ⟨its, rv, p, hz⟩ := I.tuple hq
    obtain ⟨u, hu, ru⟩ := rv.get hx
    have hel : e < s.heap.objs.size := Heap.lt_size he
    have hil : it < s.heap.objs.size := by obtain ⟨_, q, _⟩ := hit; exact Heap.lt_size q
    have hh : X.A.in1.handled = none := I.ok.hd hc
    have l1 : i < its.toArray.size := by
      have := (List.getElem?_eq_some_iff.mp hu).1
      simpa using this
    refine wpAny_pyNext_enum_itemD (Draws.tuple hh it a na its.toArray) he ⟨hit, p⟩ l1 hne (by simp [hne, ne]) fun v h' tk g ho hit' hT hsz hk => ?_
    have ev : v = u := by
      have g1' : its.toArray[i]? = some v := g
      have e : its[i]? = some v := by simpa using g1'
      rw [hu] at e
      exact (Option.some.inj e).symm
    subst ev
    refine ⟨_, rfl, wpAny_letOwnedTupleGo_enum (s := { s with heap := h', toks := tk + 1 }) ho fun h'' he' sb => ?_⟩
    have hT2 : h''.get? s.heap.objs.size = some { cls := .type "tuple", data := .seq #[.int i tk, v] } := (sb.2 _ (Nat.ne_of_gt hel)).trans hT
    have new : ObjOk X.prog X.w (upd H s.heap.objs.size (.tup [.int (i : Nat), x])) h'' s.heap.objs.size (.tup [.int (i : Nat), x]) :=
      ⟨by show 2 ≤ sizeLine; decide, [.int i tk, v], .cons ⟨_, rfl⟩ (.cons ru .nil), ⟨_, hT2, rfl, _, rfl⟩⟩
    have I1 : Inv X pins σ (upd H s.heap.objs.size (.tup [.int (i : Nat), x])) { s with heap := h'', toks := tk + 1 } :=
      I.turnedNew (ch := [e, it]) (fun b ob hb q => (sb.2 b (fun z => hb (by simp [z]))).trans (hk b ob (fun z => hb (by simp [z])) (fun z => hb (by simp [z])) q)) hf (Nat.le_refl _) new
    refine ⟨.ref s.heap.objs.size, _, I1, rfl, ⟨_, x, rfl, I.hok.fresh (Nat.le_refl _), rfl, fun ys hy => by rw [I.tuple_inj hy hq]; exact hx⟩, ⟨⟨v, ?_⟩, hit'.1.at fun o q => (sb.2 it (Ne.symm hne)).trans q, hne⟩, fun b hb => ?_⟩
    · have e1 : ((i + 1 : Nat) : Int) = (i : Int) + 1 := by omega
      rw [e1]; exact he'
    · have hb' : b < s.heap.objs.size := by
        have e' : b = e ∨ b = it := by simpa using hb
        rcases e' with z | z
        · rw [z]; exact hel
        · rw [z]; exact hil
      rw [upd_ne (Nat.ne_of_lt hb')]
      exact (hf b hb).1
  done := by
    intro X hP hw hK hc i pins s σ H E I hf st hg
    subst hP hw hK
    obtain ⟨⟨old, he⟩, hit, hne⟩ := st
    obtain ⟨xs, hq, hx⟩ := hg
    obtain ⟨its, rv, p, hz⟩ := I.tuple hq
    obtain ⟨f0, f1, f2, f3, f4, f5⟩ := hf it (by simp)
    have hl := rv.length
    have hh : X.A.in1.handled = none := I.ok.hd hc
    have ei : i = its.toArray.size := by rw [List.size_toArray]; omega
    exact wpAny_pyNext_enum_endD (Draws.tuple hh it a na its.toArray) he ⟨by rw [← ei]; exact hit, p⟩ fun h' eb => ⟨rfl, I.turned (t' := s.toks) (fun b o hb q => eb b o hb q) f0 f1 f3 f4 f5⟩
  self := fun A i s Q E st h => let ⟨⟨_, he⟩, _⟩ := st; wpAny_pyIter_enum he h
def iEnumT (K : PySem.W.Frag) (ta : TA) : TI := fun σ H R => ta σ H fun vs H1 => ∃ a xs, vs = [.ref a] ∧ SqT K H1 a xs ∧ R (IteT K a) H1
theorem pi_enumT {X : Cx} {e : Expr} {ta : TA} {p pos tpos : Pos} {elts : List Expr} {kk : Nat} (hg : Gl X "enumerate") (hm : X.mg "enumerate" = none) (ha : PA X [e] ta) (hs : starEach [e] X.env = [(false, eval e X.env)] := by rfl) :
    PI X (.Tuple elts kk tpos) (.Call (.Name "enumerate" p) [e] [] pos) (iEnumT X.K ta) := by
  refine ⟨fun pins s σ H R I h => ?_⟩
  refine Call_ (ld_blt I hg hm boot_enumerate (PyProof.Rows.callWith_type1 (thn (ha.run pos pins s σ H _ I h) fun us s1 ⟨vs, H1, I1, r1, q1⟩ => ?_) hs rfl))
  obtain ⟨a, xs, ex, hq, q⟩ := q1
  subst ex
  cases r1 with
  | cons r rr =>
    cases rr
    cases r
    obtain ⟨its, rv, p', hz⟩ := I1.tuple hq
    have lb : a < s1.heap.objs.size := by
      obtain ⟨o2, e2, _⟩ := id p'
      exact Heap.lt_size e2
    refine enum1 (begins_tuple a its.toArray) p' fun h' he hit hsz hk => wpAny_pyIter_enum he ?_
    have I2 : Inv X pins σ H1 { s1 with heap := h' } := I1.kept (t' := s1.toks) hk
    refine ⟨s1.heap.objs.size + 1, [s1.heap.objs.size + 1, s1.heap.objs.size], _, _, H1, rfl, I2, turn_enumT a (s1.heap.objs.size + 1) s1.heap.objs.size (Nat.ne_of_lt lb) (Nat.ne_of_gt (Nat.lt_succ_of_lt lb)), ⟨⟨.none, he⟩, ⟨_, hit, rfl, rfl⟩, Nat.succ_ne_self _⟩, fun b hb => ?_, q⟩
    have e' : b = s1.heap.objs.size + 1 ∨ b = s1.heap.objs.size := by simpa using hb
    have hle : s1.heap.objs.size ≤ b := by
      rcases e' with z | z
      · rw [z]; exact Nat.le_succ _
      · rw [z]; exact Nat.le_refl _
    exact I1.fpOk hle (I1.hok.fresh hle)
theorem walk_enumT {a : Addr} {xs : List V} : Walk (IteT K a) xs.length (fun H => SqT K H a xs) (YPair (fun i => some (.int (i : Nat))) (fun i => xs[i]?)) where
  goes := fun i H hi q => ⟨xs, xs[i], q, List.getElem?_eq_getElem hi⟩
  stops := fun H q => ⟨xs, q, rfl⟩
  yields := fun i H v H2 hi q y => by
    obtain ⟨T, x, h1, h2, h3, h4⟩ := y
    exact ⟨T, .int (i : Nat), x, h1, h2, h3, rfl, h4 xs q⟩
end enumt
/-! ### k54: _law_first_like, _law_without, _law_with -/
noncomputable def spFl : Sp := fun vs H Q _ => ∃ (R : Addr) (m v : Nat) (o : Int) (ds : List Deed), vs = [.ref R, .int (v : Int)] ∧ RowAt H R m ds o ∧ RowOk m ds o ∧ m ≤ v ∧ v < m + ds.length ∧ ∀ H', Same H H' → Q (if frs m ds v = v then .non else .int ((frs m ds v : Nat) : Int)) H'
open Classical in
theorem ok_fl {f fO : Addr} {fd fdO : FuncData} {k : Nat} (F : Fun K "_law_first_like" "_law_first_like" s_law_first_like f fd)
    (GO : FnOk P w K mg base CX0 (k + 3) fO fdO ["row", "one", "other"] spOw) (kO : PySem.W.keepIn K (.ref fO) = true) (bO : Binds K fdO ["row", "one", "other"] []) (gO : mg "_law_one_worth" = some (.ref fO))
    (mr : mg "range" = none) : FnOk P w K mg base CX0 (k + 4) f fd ["row", "value"] spFl := by
  refine F.ok sc_law_first_like (fun vs H Q E h => ?_) (fun cdv A outer s H vs Q E hr h => ?_)
  · obtain ⟨R, m, v, o, ds, rfl, _⟩ := h
    rfl
  · obtain ⟨R, m, v, o, ds, rfl, hrow, ok, mv, vl, q⟩ := h
    have l8 := ok.len
    have m3 := ok.m3
    refine ⟨_, pss_cons (ps_for PassesOwn.never rfl (pi_range1 (by rfl) mr (pa_cons (pv 1) pa_nil)) (pg_name (i := 2) sc_law_first_like.nd rfl (.inl rfl))
    (pss_one (ps_if (pt_val (pe_call GO hr (by rfl) gO kO bO .nil pass0 (pa_cons (pv 0) (pa_cons (pv 1) (pa_cons (pv 2) pa_nil)))))
    (pss_one (ps_ret (pv 2)))
    pss_nil)))
    (pss_one (ps_ret pe_non)), ?_⟩
    refine ⟨.int (v : Int), rfl, (v : Int), rfl, by omega, by omega, for_range (lo := 0) (n := (v : Int).toNat) (fun i σ H3 => (∃ y2, σ = [some (.ref R), some (.int (v : Int)), y2]) ∧ Same H H3 ∧ ∀ j, j < i → ¬ AgV m ds j v) ⟨⟨none, rfl⟩, Same.refl H, fun j hj => absurd hj (Nat.not_lt_zero _)⟩ (fun i σ H3 hi hp => ?_) (fun σ H3 hp => ?_)⟩
    · obtain ⟨⟨y2, rfl⟩, s3, mn⟩ := hp
      rw [Int.toNat_natCast] at hi
      rw [Int.zero_add]
      refine ⟨.ref R, rfl, .int (v : Int), rfl, .int (i : Int), rfl, R, m, v, i, o, ds, rfl, (Same.tups s3).row hrow, ok, mv, vl, hi, fun H4 s4 => ⟨_, rfl, ite2 (fun e => ?_) (fun e => ?_)⟩⟩
      · have h1 := of_decide_eq_true e
        have ef := frs_uniq h1 mn
        have := q H4 (s3.trans s4)
        rw [← ef, if_neg (by omega)] at this
        exact ⟨.int (i : Int), rfl, this⟩
      · refine ⟨⟨_, rfl⟩, s3.trans s4, fun j hj => ?_⟩
        by_cases c : j = i
        · rw [c]
          exact fun z => e (decide_eq_true z)
        · exact mn j (by omega)
    · obtain ⟨⟨y2, rfl⟩, s3, mn⟩ := hp
      rw [Int.toNat_natCast] at mn
      obtain ⟨f1, f2, f3⟩ := frs_spec m ds v
      have := q H3 s3
      have ef : frs m ds v = v := by
        rcases Nat.lt_or_ge (frs m ds v) v with z | z
        · exact absurd f2 (mn _ z)
        · omega
      rw [if_pos ef] at this
      exact this
theorem renD_nuD {n : Nat} {v : Int} {d : Deed} (h : DeedOk (n : Int) d) : renD (nuD n v) d = (d.1, d.2.map fun z => if z > v then z - 1 else z) := by
  unfold renD
  congr 1
  refine List.map_congr_left fun z hz => ?_
  obtain ⟨z0, z1⟩ := h.ahead z hz
  unfold nuD
  rw [List.getD_eq_getElem?_getD, List.getElem?_map, List.getElem?_range (by omega)]
  show (if ((z.toNat : Nat) : Int) > v then ((z.toNat : Nat) : Int) - 1 else ((z.toNat : Nat) : Int)) = _
  rw [show ((z.toNat : Nat) : Int) = z by omega]
abbrev rInt1 : List V → Hp → VK → Prop := fun xs H Q => (∃ i, xs = [.int i] ∧ Q (.int i) H) ∨ ∃ k, xs = [.bl k] ∧ Q (.int (if k then 1 else 0)) H
set_option maxHeartbeats 4000000 in
theorem ok_lwo {f : Addr} {fd : FuncData} {k : Nat} (F : Fun K "_law_without" "_law_without" s_law_without f fd)
    (me : mg "enumerate" = none) (mt : mg "tuple" = none) (mI : mg "int" = none) : FnOk P w K mg base CX0 (k + 1) f fd ["row", "value"] spDrp := by
  refine F.ok sc_law_without (fun vs H Q E h => ?_) (fun cdv A outer s H vs Q E hr h => ?_)
  · obtain ⟨R, m, i, o, ds, rfl, _⟩ := h
    rfl
  · obtain ⟨R, m, i, o, ds, rfl, hrow, ok, hi, q⟩ := h
    obtain ⟨D, rs, eR, eD, hd⟩ := id hrow
    have l8 := ok.len
    have m1 := ok.m1
    have m3 := ok.m3
    have o0 := ok.o0
    have o1 := ok.o1
    have rl := awLen hd
    refine ⟨_, pss_cons (ps_asg (pv 0) (pg_tup rfl (pgs_cons (pg_name (i := 2) sc_law_without.nd rfl (.inl rfl)) (pgs_cons (pg_name (i := 3) sc_law_without.nd rfl (.inl rfl)) (pgs_cons (pg_name (i := 4) sc_law_without.nd rfl (.inl rfl)) pgs_nil)))))
    (pss_cons (ps_set (i := 5) sc_law_without.nd rfl (.inl rfl) (pe_lst pa_nil))
    (pss_cons (ps_for PassesOwn.never rfl (pi_enumT (by rfl) me (pa_cons (pv 3) pa_nil)) (pg_tup rfl (pgs_cons (pg_name (i := 6) sc_law_without.nd rfl (.inl rfl)) (pgs_cons (pg_name (i := 7) sc_law_without.nd rfl (.inl rfl)) pgs_nil)))
    (pss_one (ps_if (pt_cmpR op_ne (pe_op op_add (pv 2) (pv 6)) (pv 1) (nomark _))
    (pss_one (ps_expr (pe_bm PySem.F.plainAttrs_list PySem.F.slot_list_append PySem.F.type_list_append mt_append (pv 5) (pa_cons (pe_op op_catZ (pe_slice sl_tupZ (pv 7) po_none (po_some pe_int)) (pe_callTy call_tuple_of (by rfl) mt (by decide +kernel) (pa_cons (pe_lc (own := [("one", 8)]) (g := gName 8) (by rfl) sc_law_without.nd (pi_tup (pe_slice sl_tupZ (pv 7) (po_some pe_int) po_none)) (blkOk_by (own := [("one", 8)]) (N := N_law_without) (sc := defScope s_law_without) (by decide +kernel)) (fun _ _ _ _ _ => (pg_name (i := 8) sc_law_without.nd rfl (.inl rfl))) (fun _ _ _ _ _ => pts_nil) (fun _ _ _ _ _ => (pe_op op_sub (pv 8) (pe_callTy (T := "int") (r := rInt1) call_int1 (by rfl) mI (by decide +kernel) (pa_cons (pe_cmpR op_gt (pv 8) (pv 1) (nomark _)) pa_nil))))) pa_nil))) pa_nil))))
    pss_nil)))
    (pss_one (ps_ret (pe_tup (pa_cons (pv 2) (pa_cons (pe_callTy call_tuple_of (by rfl) mt (by decide +kernel) (pa_cons (pv 5) pa_nil)) (pa_cons (pe_op op_sub (pv 4) (pe_callTy call_int1 (by rfl) mI (by decide +kernel) (pa_cons (pe_cmpR op_gt (pv 4) (pv 1) (nomark _)) pa_nil))) pa_nil)))))))), ?_⟩
    refine ⟨.ref R, rfl, R, [.int m, .ref D, .int o], rfl, SqT.of eR, rfl, .int m, [.ref D, .int o], rfl, .ref D, [.int o], rfl, .int o, [], rfl, rfl, ?_⟩
    refine ⟨(by show 0 ≤ sizeLine; decide), fun Fo hFo => ?_⟩
    have sF := same_new (o := .lst []) hFo
    obtain ⟨re, hre⟩ : ∃ re : Deed → Deed, re = renD (nuD (m + ds.length) ((m + i : Nat) : Int)) := ⟨_, rfl⟩
    -- what is left of the first deeds
    obtain ⟨lf, hlf⟩ : ∃ lf : Nat → List Deed, ∀ t, lf t = (ds.take t).take i ++ (ds.take t).drop (i + 1) := ⟨fun t => (ds.take t).take i ++ (ds.take t).drop (i + 1), fun _ => rfl⟩
    have lf_ne : ∀ t d, ds[t]? = some d → t ≠ i → lf (t + 1) = lf t ++ [d] := fun t d hd ht => by
      have tl := (List.getElem?_eq_some_iff.mp hd).1
      have e1 : ds.take (t + 1) = ds.take t ++ [d] := by rw [List.take_add_one, hd]; rfl
      rw [hlf, hlf, e1]
      have l : (ds.take t).length = t := by rw [List.length_take]; omega
      rcases Nat.lt_or_ge t i with c | c
      · rw [List.take_of_length_le (by rw [List.length_append, l]; show t + 1 ≤ i; omega), List.take_of_length_le (by omega : (ds.take t).length ≤ i), List.drop_of_length_le (by rw [List.length_append, l]; show t + 1 ≤ _; omega), List.drop_of_length_le (by omega), List.append_nil, List.append_nil]
      · rw [List.take_append_of_le_length (by omega), List.drop_append_of_le_length (by omega), List.append_assoc]
    have lf_eq : ∀ d, ds[i]? = some d → lf (i + 1) = lf i := fun d hd => by
      have e1 : ds.take (i + 1) = ds.take i ++ [d] := by rw [List.take_add_one, hd]; rfl
      have l : (ds.take i).length = i := by rw [List.length_take]; omega
      rw [hlf, hlf, e1, List.take_left' l, List.drop_of_length_le (by rw [List.length_append, l]; exact Nat.le_refl _), List.drop_of_length_le (by omega), List.take_of_length_le (show (ds.take i).length ≤ i by omega)]
    have lf_len : ∀ t, (lf t).length ≤ t := fun t => by
      rw [hlf, List.length_append, List.length_take, List.length_drop, List.length_take]
      omega
    refine ⟨.ref D, rfl, D, _, rfl, SqT.of (sF _ _ eD), for_it (walk_enumT (K := K) (a := D) (xs := rs.map V.ref)) (fun t σ H4 => ∃ (y6 y7 : Option V) (gs : List Addr), σ = [some (.ref R), some (.int ((m + i : Nat) : Int)), some (.int (m : Int)), some (.ref D), some (.int o), some (.ref Fo), y6, y7, none] ∧ H4 Fo = some (.lst (gs.map V.ref)) ∧ DsAt H4 gs ((lf t).map re) ∧ Same H H4)
      ⟨none, none, [], rfl, upd_same, by rw [hlf, List.take_zero, List.take_nil, List.drop_nil]; exact .nil, sF⟩ (fun t σ H4 _ hp => ?_) (fun t x σ H4 H5 hj hp hy => ?_) (fun σ H4 hp => ?_)⟩
    · obtain ⟨_, _, _, _, _, _, s4⟩ := hp
      exact SqT.of (s4 _ _ eD)
    · obtain ⟨y6, y7, gs, rfl, eFo, hgs, s4⟩ := hp
      obtain ⟨U, x1, x2, rfl, hU, rfl, g1, g2⟩ := hy
      obtain rfl : V.int (t : Nat) = x1 := Option.some.inj g1
      have ht2 : t < rs.length := by rwa [List.length_map] at hj
      have hx2 : x2 = .ref rs[t] := by
        have g2' : (rs.map V.ref)[t]? = some x2 := g2
        rw [List.getElem?_map, List.getElem?_eq_getElem ht2] at g2'
        exact (Option.some.inj g2').symm
      subst hx2
      obtain ⟨d, hd1, hd2⟩ := awGet hd (List.getElem?_eq_getElem ht2)
      have okd := ok.deeds.each t d hd1
      have sU := same_new (o := .tup [.int (t : Nat), .ref rs[t]]) hU
      have edU := sU _ _ (s4 _ _ hd2)
      have eUU : upd H4 U (.tup [.int (t : Nat), .ref rs[t]]) U = some (.tup [.int (t : Nat), .ref rs[t]]) := upd_same
      obtain ⟨r, hr'⟩ : ∃ r, r = rs[t] := ⟨_, rfl⟩
      rw [← hr'] at edU sU eUU ⊢
      obtain ⟨H5, hH5⟩ : ∃ H5, H5 = upd H4 U (.tup [.int (t : Nat), .ref r]) := ⟨_, rfl⟩
      rw [← hH5] at edU sU eUU ⊢
      have eFo5 := sU _ _ eFo
      have s05 := s4.trans sU
      refine ⟨U, [.int (t : Nat), .ref r], rfl, .inl (.inl eUU), rfl, .int (t : Nat), [.ref r], rfl, .ref r, [], rfl, rfl, ?_⟩
      refine ⟨.int (m : Int), rfl, .int (t : Nat), rfl, _, _, rfl, rfl, .int ((m + i : Nat) : Int), rfl, rfl, _, rfl, ite2 (fun e => ?_) (fun e => ?_)⟩
      · have nti : t ≠ i := fun z => by
          rw [z] at e
          simp at e
        have d2 : d.2.length ≤ 2 := by
          rcases fw_cases okd.word with ⟨h, _⟩ | ⟨h, _⟩ | ⟨h, _⟩ <;> omega
        refine ⟨.ref Fo, rfl, .inl ⟨rfl, _, .inl (.inl eFo5)⟩, .ref r, rfl, 1, rfl, r, dV d, rfl, edU, fun p1 Ha sa ea => ?_⟩
        have ea' : Ha p1 = some (.tup [.str d.1]) := by
          rw [ea]
          have : cutV (dV d) none (some 1) = (dV d).take 1 := cut_take (dV d) 1
          rw [this]
          rfl
        refine ⟨.ref r, rfl, 1, rfl, r, dV d, rfl, sa _ _ edU, fun p2 Hb sb eb => ?_⟩
        have eb' : Hb p2 = some (.tup (d.2.map V.int)) := by
          rw [eb]
          have : cutV (dV d) (some 1) none = (dV d).drop 1 := cut_drop (dV d) 1
          rw [this]
          rfl
        refine ⟨p2, rfl, ⟨_, SqT.of eb'⟩, fun C hC => ?_⟩
        have sab := sa.trans sb
        refine lc_tup (K := K) (a := p2) (xs := d.2.map V.int) (fun j H6 => H6 C = some (.lst (((d.2.take j).map fun z => if z > ((m + i : Nat) : Int) then z - 1 else z).map V.int)) ∧ Same Hb H6) ⟨upd_same, same_new hC⟩ (fun j H6 _ hp => ?_) (fun j x H6 hx hp => ?_) (fun H6 hp => ?_)
        · exact SqT.of (hp.2 _ _ eb')
        · obtain ⟨eC, s6⟩ := hp
          rw [List.getElem?_map] at hx
          obtain ⟨z, hz, rfl⟩ := Option.map_eq_some_iff.mp hx
          have hjl := (List.getElem?_eq_some_iff.mp hz).1
          refine ⟨rfl, .int z, rfl, .int z, rfl, .int ((m + i : Nat) : Int), rfl, _, _, rfl, rfl, .inr ⟨_, rfl, _, _, rfl, rfl, ?_⟩⟩
          refine ⟨_, eC, ?_, ?_, ?_⟩
          · rw [List.length_map, List.length_map, List.length_take]
            exact small1000 (by omega)
          · rw [upd_same, List.take_add_one, hz]
            by_cases c : z > ((m + i : Nat) : Int)
            · have c2 : (m : Int) + (i : Int) < z := by omega
              simp [c2]
            · have c2 : ¬ (m : Int) + (i : Int) < z := by omega
              simp [c2]
          · intro b u e
            rw [upd_ne (ne_of_none e hC)]
            exact s6 _ _ e
        · obtain ⟨eC, s6⟩ := hp
          rw [List.length_map, List.take_length] at eC
          refine ⟨C, _, rfl, .inl ⟨.inl (.inl eC), fun V1 hV1 => ?_⟩⟩
          have ere : d.2.map (fun z => if z > ((m + i : Nat) : Int) then z - 1 else z) = (re d).2 := by
            rw [hre, renD_nuD (okd_more okd (by omega))]
          rw [ere]
          have ere1 : (re d).1 = d.1 := by rw [hre]; rfl
          have ere2 : (re d).2.length = d.2.length := by rw [← ere, List.length_map]
          have sV := same_new (o := .tup ((re d).2.map V.int)) hV1
          refine ⟨p1, V1, _, _, rfl, rfl, sV _ _ (s6 _ _ (sb _ _ ea')), upd_same, ?_, fun p H7 s7 e7 => ?_⟩
          · rw [List.length_map, ere2]
            exact Nat.le_of_lt (small1000 (by show 1 + d.2.length ≤ 1000; omega))
          have e7' : H7 p = some (.tup (dV (re d))) := by
            rw [e7]
            show some (HO.tup (V.str d.1 :: (re d).2.map V.int)) = some (HO.tup (V.str (re d).1 :: (re d).2.map V.int))
            rw [ere1]
          have s57 : Same H5 H7 := sab.trans (s6.trans (sV.trans s7))
          have eFo7 := s57 _ _ eFo5
          have hgs7 := (Same.tups (sU.trans s57)).ds hgs
          have gl := awLen hgs
          rw [List.length_map] at gl
          have := lf_len t
          have tF := tups_put (o := .lst (gs.map V.ref ++ [V.ref p])) eFo7
          refine ⟨Fo, _, _, rfl, rfl, eFo7, (by rw [List.length_map]; exact small1000 (by omega)), ?_⟩
          refine ⟨_, _, gs ++ [p], rfl, by rw [upd_same, List.map_append]; rfl, ?_, fun b u e => ?_⟩
          · rw [lf_ne t d hd1 nti, List.map_append]
            exact tF.ds (awSnoc (F := fun (r : Addr) (d : Deed) => H7 r = some (.tup (dV d))) e7' hgs7)
          · rw [upd_ne (ne_of_none e hFo)]
            exact s57 _ _ (s05 _ _ e)
      · have eti : t = i := by
          false_or_by_contra
          rename_i z
          exact e (by simp; omega)
        subst eti
        refine ⟨_, _, gs, rfl, eFo5, ?_, s05⟩
        rw [lf_eq d hd1]
        exact (Same.tups sU).ds hgs
    · obtain ⟨y6, y7, gs, rfl, eFo, hgs, s4⟩ := hp
      rw [List.length_map, rl] at hgs
      rw [hlf, List.take_length, hre] at hgs
      refine ⟨.int (m : Int), rfl, .ref Fo, rfl, Fo, _, rfl, .inl ⟨.inl (.inl eFo), fun Z hZ => ?_⟩⟩
      have sZ := same_new (o := .tup (gs.map V.ref)) hZ
      refine ⟨.int o, rfl, .int o, rfl, .int ((m + i : Nat) : Int), rfl, _, _, rfl, rfl, .inr ⟨_, rfl, _, _, rfl, rfl, ?_⟩⟩
      have eo : o - (if decide (o > ((m + i : Nat) : Int)) = true then 1 else 0) = drpO m ds o i := by
        unfold drpO nuD
        rw [List.getD_eq_getElem?_getD, List.getElem?_map, List.getElem?_range (by omega)]
        show _ = (if ((o.toNat : Nat) : Int) > ((m + i : Nat) : Int) then ((o.toNat : Nat) : Int) - 1 else ((o.toNat : Nat) : Int))
        rw [show ((o.toNat : Nat) : Int) = o by omega]
        by_cases c : o > ((m + i : Nat) : Int)
        · rw [if_pos c, if_pos (decide_eq_true c)]
        · rw [if_neg c, if_neg (by rw [decide_eq_false c]; exact Bool.false_ne_true)]
          omega
      refine ⟨(by show 3 ≤ sizeLine; decide), fun R' hR' => ?_⟩
      have sR := same_new (o := .tup [.int (m : Int), .ref Z, .int (drpO m ds o i)]) hR'
      have sAll := s4.trans (sZ.trans sR)
      rw [← eo] at sAll sR
      refine q _ R' sAll ⟨Z, gs, ?_, sR _ _ upd_same, awMap (fun _ _ e => sR _ _ (sZ _ _ e)) hgs⟩
      rw [← eo]
      exact upd_same
abbrev rTupOf54 (K : PySem.W.Frag) : List V → Hp → VK → Prop := fun xs H Q => ∃ p ys, xs = [.ref p] ∧ ((SqL K H p ys ∧ ∀ l, H l = none → Q (.ref l) (upd H l (.tup ys))) ∨ (SqT K H p ys ∧ Q (.ref p) H))
abbrev scWb : Scope := ⟨.function, [(".0", .local), ("deed", .local), ("tuple", .globalImplicit), ("named", .cell)], false, false, []⟩
abbrev scWc : Scope := ⟨.function, [(".0", .local), ("one", .local), ("named", .free)], false, false, []⟩
def spLwi9 : Sp := fun vs H Q _ => ∃ (R : Addr) (m v : Nat) (o : Int) (ds : List Deed), vs = [.ref R, .int (v : Int), .int ((frs m ds v : Nat) : Int)] ∧ RowAt H R m ds o ∧ RowOk m ds o ∧ v < m + ds.length ∧
  ∀ H' R', Same H H' → RowAt H' R' m (bckD m ds v (frs m ds v)) (bckO m ds o v (frs m ds v)) → Q (.ref R') H'
set_option maxHeartbeats 4000000 in
theorem ok_lwi9 {f : Addr} {fd : FuncData} {k : Nat} (F : Fun K "_law_with" "_law_with" s_law_with f fd)
    (mr : mg "range" = none) (mn : mg "len" = none) (ml : mg "list" = none) (mt : mg "tuple" = none) : FnOk P w K mg base CX0 (k + 1) f fd ["row", "value", "other"] spLwi9 := by
  refine F.ok sc_law_with (fun vs H Q E h => ?_) (fun cdv A outer s H vs Q E hr h => ?_)
  · obtain ⟨R, m, v, o, ds, rfl, _⟩ := h
    rfl
  · obtain ⟨R, m, v, o, ds, rfl, hrow, ok, hv, q⟩ := h
    obtain ⟨D, rs, eR, eD, hd⟩ := id hrow
    have l8 := ok.len
    have m1 := ok.m1
    have m3 := ok.m3
    have o0 := ok.o0
    have o1 := ok.o1
    have rl := awLen hd
    refine ⟨_, pss_cons (ps_set (i := 3) sc_law_with.nd rfl (.inr rfl) (pe_listRg rfl (by rfl) ml (prg_1 (by rfl) mr (pe_op op_add (pe_ix ix_tup (pv 0) pe_int (fun _ _ => rfl)) (pe_callB call_len_seq (by rfl) mn PySem.boot_len (pa_cons (pe_ix ix_tup (pv 0) pe_int (fun _ _ => rfl)) pa_nil))))))
    (pss_cons (ps_asg (pv 2) (pg_sub (pv 3) (pv 1) set_list))
    (pss_cons (ps_setLc (i := 4) (own := [("deed", 6)]) (g := gName 6) (by rfl) sc_law_with.nd rfl rfl (sw_true rfl rfl rfl (by decide +kernel)) (pi_tup (pe_ix ix_tup (pv 0) pe_int (fun _ _ => rfl))) (blkOk_by (own := [("deed", 6)]) (N := N_law_with) (sc := defScope s_law_with) (by decide +kernel)) (fun _ _ _ _ _ => (pg_name (i := 6) sc_law_with.nd rfl (.inl rfl))) (fun _ _ _ _ _ => pts_nil) (fun _ _ _ _ _ => (pe_op (r := rCatZ) op_catZ (pe_slice (r := rSlZ) sl_tupZ (pv 6) po_none (po_some pe_int)) (pe_callTy (T := "tuple") (r := rTupOf54 K) call_tuple_of (by rfl) mt (by decide +kernel) (pa_cons (pe_lc (wi := iTup K (tSl rSlZ (tVar 6) (tPart (tC (.int 1))) tNoPart)) (own := [("one", 5)]) (g := gName 5) (by rfl) sc_law_with.nd (pi_tup (pe_slice (r := rSlZ) sl_tupZ (pv 6) (po_some pe_int) po_none)) (by exact blkOk_by (own := [("one", 5)]) (N := N_law_with) (sc := scWb) (scope := scWc) (by decide +kernel)) (fun _ _ _ _ _ => (pg_name (i := 5) sc_law_with.nd rfl (.inl rfl))) (fun _ _ _ _ _ => pts_nil) (fun _ _ _ _ _ => (pe_ix (r := rIxL K) ix_list (pv 3) (pv 5) (fun _ _ => rfl)))) pa_nil)))))
    (pss_one (ps_ret (pe_tup (pa_cons (pe_ix ix_tup (pv 0) pe_int (fun _ _ => rfl)) (pa_cons (pe_callTy call_tuple_of (by rfl) mt (by decide +kernel) (pa_cons (pv 4) pa_nil)) (pa_cons (pe_ix ix_list (pv 3) (pe_ix ix_tup (pv 0) pe_int (fun _ _ => rfl)) (fun _ _ => rfl)) pa_nil)))))))), ?_⟩
    have en : (m : Int) + ((rs.map V.ref).length : Int) = ((m + ds.length : Nat) : Int) := by rw [List.length_map, rl]; omega
    refine ⟨.ref R, rfl, R, _, 0, .int (m : Int), rfl, rfl, SqT.of eR, rfl, .ref R, rfl, R, _, 1, .ref D, rfl, rfl, SqT.of eR, rfl, D, _, rfl, .inr (SqT.of eD), (m : Int), _, rfl, rfl, (m : Int) + ((rs.map V.ref).length : Int), rfl, ?_⟩
    rw [en]
    refine ⟨RgOk.of_le (by omega) (by omega) (by omega) (by omega), fun N hN => ?_⟩
    have sN := same_new (o := .lst (rgV 0 ((m + ds.length : Nat) : Int))) hN
    have er : rgV 0 ((m + ds.length : Nat) : Int) = ((List.range (m + ds.length)).map fun (j : Nat) => (j : Int)).map V.int := by
      unfold rgV
      rw [Int.sub_zero, Int.toNat_natCast, List.map_map]
      refine List.map_congr_left fun j _ => ?_
      show V.int (0 + (j : Int)) = V.int (j : Int)
      rw [Int.zero_add]
    have eN1 : upd H N (.lst (rgV 0 ((m + ds.length : Nat) : Int))) N = _ := upd_same
    rw [er] at eN1
    refine ⟨.int ((frs m ds v : Nat) : Int), rfl, .ref N, rfl, .int (v : Int), rfl, N, _, (v : Int), v, rfl, rfl, by rw [er]; exact eN1, ?_, ?_⟩
    · unfold ixN
      rw [if_pos (by omega), if_pos (by rw [List.length_map, List.length_map, List.length_range]; omega), Int.toNat_natCast]
    have eset : (((List.range (m + ds.length)).map fun (j : Nat) => (j : Int)).map V.int).set v (.int ((frs m ds v : Nat) : Int)) = (nuB (m + ds.length) v (frs m ds v)).map V.int := by
      unfold nuB
      rw [List.map_set]
    rw [eset]
    obtain ⟨H2, hH2⟩ : ∃ H2, H2 = upd (upd H N (.lst (rgV 0 ((m + ds.length : Nat) : Int)))) N (.lst ((nuB (m + ds.length) v (frs m ds v)).map V.int)) := ⟨_, rfl⟩
    obtain ⟨nu, hnu⟩ : ∃ nu, nu = nuB (m + ds.length) v (frs m ds v) := ⟨_, rfl⟩
    have nul : nu.length = m + ds.length := by rw [hnu, nuB_len]
    have eN2 : H2 N = some (.lst (nu.map V.int)) := by rw [hH2, hnu]; exact upd_same
    have s02 : Same H H2 := fun b u e => by
      rw [hH2, upd_ne (ne_of_none e hN)]
      exact sN _ _ e
    rw [← hH2]
    have hd' := awMap (fun _ _ e => s02 _ _ e) hd
    refine ⟨.ref R, rfl, R, _, 1, .ref D, rfl, rfl, SqT.of (s02 _ _ eR), rfl, D, rfl, ⟨_, SqT.of (s02 _ _ eD)⟩, fun C2 hC2 => ?_⟩
    refine lc_tup (K := K) (a := D) (xs := rs.map V.ref) (fun j H8 => ∃ ts, H8 C2 = some (.lst (ts.map V.ref)) ∧ DsAt H8 ts ((ds.take j).map (renD nu)) ∧ Same H2 H8) ⟨[], upd_same, by rw [List.take_zero]; exact .nil, same_new hC2⟩ (fun j H8 _ hp => ?_) (fun j x H8 hx hp => ?_) (fun H8 hp => ?_)
    · obtain ⟨_, _, _, s8⟩ := hp
      exact SqT.of (s8 _ _ (s02 _ _ eD))
    · obtain ⟨ts, eC2, hts, s8⟩ := hp
      rw [List.getElem?_map] at hx
      obtain ⟨r, hr', rfl⟩ := Option.map_eq_some_iff.mp hx
      obtain ⟨d, hd1, hd2⟩ := awGet hd' hr'
      have okn : DeedOk (nu.length : Int) d := by rw [nul]; exact deeds_in ok.deeds d (List.mem_of_getElem? hd1)
      have d2 : d.2.length ≤ 2 := by
        rcases fw_cases okn.word with ⟨h, _⟩ | ⟨h, _⟩ | ⟨h, _⟩ <;> omega
      have edU := s8 _ _ hd2
      refine ⟨rfl, .ref r, rfl, 1, rfl, r, dV d, rfl, edU, fun p1 Ha sa ea => ?_⟩
      have ea' : Ha p1 = some (.tup [.str d.1]) := by
        rw [ea]
        have : cutV (dV d) none (some 1) = (dV d).take 1 := cut_take (dV d) 1
        rw [this]
        rfl
      refine ⟨.ref r, rfl, 1, rfl, r, dV d, rfl, sa _ _ edU, fun p2 Hb sb eb => ?_⟩
      have eb' : Hb p2 = some (.tup (d.2.map V.int)) := by
        rw [eb]
        have : cutV (dV d) (some 1) none = (dV d).drop 1 := cut_drop (dV d) 1
        rw [this]
        rfl
      refine ⟨p2, rfl, ⟨_, SqT.of eb'⟩, fun C hC => ?_⟩
      have sab := sa.trans sb
      have eNmb := sab _ _ (s8 _ _ eN2)
      refine lc_tup (K := K) (a := p2) (xs := d.2.map V.int) (fun j H6 => H6 C = some (.lst (((d.2.take j).map fun z => nu.getD z.toNat 0).map V.int)) ∧ Same Hb H6) ⟨upd_same, same_new hC⟩ (fun j H6 _ hp => ?_) (fun j x H6 hx hp => ?_) (fun H6 hp => ?_)
      · exact SqT.of (hp.2 _ _ eb')
      · obtain ⟨eC, s6⟩ := hp
        rw [List.getElem?_map] at hx
        obtain ⟨z, hz, rfl⟩ := Option.map_eq_some_iff.mp hx
        obtain ⟨z0, z1⟩ := okn.ahead z (List.mem_of_getElem? hz)
        have hjl := (List.getElem?_eq_some_iff.mp hz).1
        refine ⟨rfl, .ref N, rfl, .int z, rfl, N, _, z, _, rfl, rfl, .inl (.inl (s6 _ _ eNmb)), atI_ints z0 z1, _, eC, ?_, ?_, ?_⟩
        · rw [List.length_map, List.length_map, List.length_take]
          exact small1000 (by omega)
        · rw [upd_same, List.take_add_one, hz]
          simp
        · intro b u e
          rw [upd_ne (ne_of_none e hC)]
          exact s6 _ _ e
      · obtain ⟨eC, s6⟩ := hp
        rw [List.length_map, List.take_length] at eC
        refine ⟨C, _, rfl, .inl ⟨.inl (.inl eC), fun V1 hV1 => ?_⟩⟩
        have sV := same_new (o := .tup ((renD nu d).2.map V.int)) hV1
        refine ⟨p1, V1, _, _, rfl, rfl, sV _ _ (s6 _ _ (sb _ _ ea')), upd_same, ?_, fun p H7 s7 e7 => ?_⟩
        · rw [List.length_map, List.length_map]
          exact Nat.le_of_lt (small1000 (by show 1 + d.2.length ≤ 1000; omega))
        have e7' : H7 p = some (.tup (dV (renD nu d))) := e7
        have s57 : Same H8 H7 := sab.trans (s6.trans (sV.trans s7))
        have eC7 := s57 _ _ eC2
        have tl := awLen hts
        rw [List.length_map, List.length_take] at tl
        have tF := tups_put (o := .lst (ts.map V.ref ++ [V.ref p])) eC7
        refine ⟨_, eC7, by rw [List.length_map]; exact small1000 (by omega), ts ++ [p], by rw [upd_same, List.map_append]; rfl, ?_, fun b u e => ?_⟩
        · rw [List.take_add_one, hd1, List.map_append]
          exact awMap (fun _ _ e => tF _ _ e) (awSnoc (F := fun (r : Addr) (d : Deed) => H7 r = some (.tup (dV d))) e7' (awMap (fun _ _ e => s57 _ _ e) hts))
        · rw [upd_ne (ne_of_none e hC2)]
          exact s57 _ _ (s8 _ _ e)
    · obtain ⟨ts, eC2, hts, s8⟩ := hp
      rw [List.length_map, rl, List.take_length] at hts
      refine ⟨.ref R, rfl, R, _, 0, .int (m : Int), rfl, rfl, SqT.of (s8 _ _ (s02 _ _ eR)), rfl, .ref C2, rfl, C2, _, rfl, .inl ⟨.inl (.inl eC2), fun Z hZ => ?_⟩⟩
      have sZ := same_new (o := .tup (ts.map V.ref)) hZ
      have s2Z := s8.trans sZ
      have eo : bckO m ds o v (frs m ds v) = nu.getD o.toNat 0 := by rw [hnu]; rfl
      refine ⟨.ref N, rfl, .ref R, rfl, R, _, 2, .int o, rfl, rfl, SqT.of (s2Z _ _ (s02 _ _ eR)), rfl, N, _, o, .int (bckO m ds o v (frs m ds v)), rfl, rfl, .inl (.inl (s2Z _ _ eN2)), by rw [eo]; exact atI_ints o0 (by rw [nul]; omega), (by show 3 ≤ sizeLine; decide), fun R' hR' => ?_⟩
      have sR := same_new (o := .tup [.int (m : Int), .ref Z, .int (bckO m ds o v (frs m ds v))]) hR'
      rw [hnu] at hts
      exact q _ R' (s02.trans (s2Z.trans sR)) ⟨Z, ts, upd_same, sR _ _ upd_same, awMap (fun _ _ e => sR _ _ (sZ _ _ e)) hts⟩
/-! ### same told by what fits -/
theorem fitL_same {m : Nat} {ds : List Deed} {o : Int} {e : Str × Int} (h : e ∈ fitL m ds o) (ne : ¬ e.1 = "drop") : frs m ds e.2.toNat ≠ e.2.toNat := by
  unfold fitL at h
  rcases List.mem_append.mp h with h | h
  · obtain ⟨i, _, rfl⟩ := List.mem_map.mp h
    exact absurd rfl ne
  · obtain ⟨i, hi, rfl⟩ := List.mem_map.mp h
    have := (List.mem_filter.mp hi).2
    rw [Bool.and_eq_true] at this
    show frs m ds (((m + i : Nat) : Int)).toNat ≠ (((m + i : Nat) : Int)).toNat
    rw [Int.toNat_natCast]
    intro z
    rw [decide_eq_true z] at this
    exact absurd this.2 (by decide)
/-! ### k54: _law_put, _law_fitting -/
theorem ok_lpu {f fD' fB fL : Addr} {fd fdD fdB fdL : FuncData} {k : Nat} (F : Fun K "_law_put" "_law_put" s_law_put f fd)
    (GD : FnOk P w K mg base CX0 (k + 1) fD' fdD ["row", "value"] spDrp) (kD : PySem.W.keepIn K (.ref fD') = true) (bD : Binds K fdD ["row", "value"] []) (gD : mg "_law_without" = some (.ref fD'))
    (GB : FnOk P w K mg base CX0 (k + 1) fB fdB ["row", "value", "other"] spLwi9) (kB : PySem.W.keepIn K (.ref fB) = true) (bB : Binds K fdB ["row", "value", "other"] []) (gB : mg "_law_with" = some (.ref fB))
    (GL : FnOk P w K mg base CX0 (k + 4) fL fdL ["row", "value"] spFl) (kL : PySem.W.keepIn K (.ref fL) = true) (bL : Binds K fdL ["row", "value"] []) (gL : mg "_law_first_like" = some (.ref fL)) : FnOk P w K mg base CX0 (k + 5) f fd ["row", "rule", "value"] spPb := by
  refine F.ok sc_law_put (fun vs H Q E h => ?_) (fun cdv A outer s H vs Q E hr h => ?_)
  · obtain ⟨R, m, o, e, ds, rfl, _⟩ := h
    rfl
  · obtain ⟨R, m, o, e, ds, rfl, hrow, ok, he, q⟩ := h
    have r1 := hr.mono (show k + 1 ≤ k + 4 by omega)
    refine ⟨_, pss_cons (ps_if (pt_cmpR op_eq (pv 1) pe_str (nomark _))
    (pss_one (ps_ret (pe_call GD r1 (by rfl) gD kD bD .nil pass0 (pa_cons (pv 0) (pa_cons (pv 2) pa_nil)))))
    pss_nil)
    (pss_one (ps_ret (pe_call GB r1 (by rfl) gB kB bB .nil pass0 (pa_cons (pv 0) (pa_cons (pv 2) (pa_cons (pe_call GL hr (by rfl) gL kL bL .nil pass0 (pa_cons (pv 0) (pa_cons (pv 2) pa_nil))) pa_nil)))))), ?_⟩
    obtain ⟨i, hi, ei⟩ := fitL_mem he
    have nes := fitL_same he
    obtain ⟨x, v⟩ := e
    dsimp only at ei q nes
    subst ei
    rw [Int.toNat_natCast] at nes
    refine ⟨.str x, rfl, rfl, _, rfl, ite2 (fun e => ?_) (fun e => ?_)⟩
    · have ex := strEq e
      refine ⟨.ref R, rfl, .int ((m + i : Nat) : Int), rfl, R, m, i, o, ds, rfl, hrow, ok, hi, fun H' R' s hr' => q H' R' s ?_⟩
      unfold putD putO
      rw [if_pos ex, if_pos ex, Int.toNat_natCast, Nat.add_sub_cancel_left]
      exact hr'
    · have ex := strNe e
      refine ⟨.ref R, rfl, .int ((m + i : Nat) : Int), rfl, .ref R, rfl, .int ((m + i : Nat) : Int), rfl, R, m, m + i, o, ds, rfl, hrow, ok, by omega, by omega, fun H1 s1 => ?_⟩
      rw [if_neg (nes ex)]
      refine ⟨R, m, m + i, o, ds, rfl, (Same.tups s1).row hrow, ok, by omega, fun H' R' s hr' => q H' R' (s1.trans s) ?_⟩
      unfold putD putO
      rw [if_neg ex, if_neg ex, Int.toNat_natCast]
      exact hr'
set_option maxHeartbeats 4000000 in
theorem ok_lfi {f fL fU : Addr} {fd fdL fdU : FuncData} {k : Nat} (F : Fun K "_law_fitting" "_law_fitting" s_law_fitting f fd)
    (GU : FnOk P w K mg base CX0 (k + 1) fU fdU ["row", "value"] spHd) (kU : PySem.W.keepIn K (.ref fU) = true) (bU : Binds K fdU ["row", "value"] []) (gU : mg "_law_used" = some (.ref fU))
    (GL : FnOk P w K mg base CX0 (k + 4) fL fdL ["row", "value"] spFl) (kL : PySem.W.keepIn K (.ref fL) = true) (bL : Binds K fdL ["row", "value"] []) (gL : mg "_law_first_like" = some (.ref fL))
    (mr : mg "range" = none) (mn : mg "len" = none) : FnOk P w K mg base CX0 (k + 5) f fd ["row"] spFi := by
  refine F.ok sc_law_fitting (fun vs H Q E h => ?_) (fun cdv A outer s H vs Q E hr h => ?_)
  · obtain ⟨R, m, o, ds, rfl, _⟩ := h
    rfl
  · obtain ⟨R, m, o, ds, rfl, hrow, ok, q⟩ := h
    obtain ⟨D, rs, eR, eD, hd⟩ := id hrow
    have r1 := hr.mono (show k + 1 ≤ k + 4 by omega)
    have l8 := ok.len
    have m1 := ok.m1
    have m3 := ok.m3
    have rl := awLen hd
    refine ⟨_, pss_cons (ps_setLc (i := 2) (own := [("value", 1)]) (g := gName 1) (by rfl) sc_law_fitting.nd rfl rfl (sw_true rfl rfl rfl (by decide +kernel)) (pi_range2 (by rfl) mr (pa_cons (pe_ix ix_tup (pv 0) pe_int (fun _ _ => rfl)) (pa_cons (pe_op op_add (pe_ix ix_tup (pv 0) pe_int (fun _ _ => rfl)) (pe_callB call_len_seq (by rfl) mn PySem.boot_len (pa_cons (pe_ix ix_tup (pv 0) pe_int (fun _ _ => rfl)) pa_nil))) pa_nil))) (blkOk_by (own := [("value", 1)]) (N := N_law_fitting) (sc := defScope s_law_fitting) (by decide +kernel)) (fun _ _ _ _ _ => (pg_name (i := 1) sc_law_fitting.nd rfl (.inl rfl))) (fun _ _ _ _ _ => pts_one (pt_not (pt_val (pe_call GU r1 (by rfl) gU kU bU .nil pass0 (pa_cons (pv 0) (pa_cons (pv 1) pa_nil)))))) (fun _ _ _ _ _ => (pe_tup (pa_cons pe_str (pa_cons (pv 1) pa_nil)))))
    (pss_cons (ps_for PassesOwn.never rfl (pi_range2 (by rfl) mr (pa_cons (pe_ix ix_tup (pv 0) pe_int (fun _ _ => rfl)) (pa_cons (pe_op op_add (pe_ix ix_tup (pv 0) pe_int (fun _ _ => rfl)) (pe_callB call_len_seq (by rfl) mn PySem.boot_len (pa_cons (pe_ix ix_tup (pv 0) pe_int (fun _ _ => rfl)) pa_nil))) pa_nil))) (pg_name (i := 1) sc_law_fitting.nd rfl (.inl rfl))
    (pss_one (ps_if (PW.pt (pw_and (pt_val (pe_call GU r1 (by rfl) gU kU bU .nil pass0 (pa_cons (pv 0) (pa_cons (pv 1) pa_nil)))) (pw_and1 (pt_cmpR op_notN (pe_call GL hr (by rfl) gL kL bL .nil pass0 (pa_cons (pv 0) (pa_cons (pv 1) pa_nil))) pe_non (nomark _)))))
    (pss_one (ps_expr (pe_bm PySem.F.plainAttrs_list PySem.F.slot_list_append PySem.F.type_list_append mt_append (pv 2) (pa_cons (pe_tup (pa_cons pe_str (pa_cons (pv 1) pa_nil))) pa_nil))))
    pss_nil)))
    (pss_one (ps_ret (pv 2)))), ?_⟩
    have en : ((m : Int) + ((rs.map V.ref).length : Int) - (m : Int)).toNat = ds.length := by
      rw [List.length_map, rl]
      omega
    refine ⟨.ref R, rfl, R, _, 0, .int (m : Int), rfl, rfl, SqT.of eR, rfl, .ref R, rfl, R, _, 0, .int (m : Int), rfl, rfl, SqT.of eR, rfl, .ref R, rfl, R, _, 1, .ref D, rfl, rfl, SqT.of eR, rfl, D, _, rfl, .inr (SqT.of eD), (m : Int), _, rfl, rfl, (m : Int), (m : Int) + ((rs.map V.ref).length : Int), rfl, ?_, fun C hC => ?_⟩
    · rw [List.length_map, rl]
      omega
    have rs1 : ∀ i, List.range (i + 1) = List.range i ++ [i] := fun i => List.range_succ
    refine lc_range (lo := (m : Int)) (n := ((m : Int) + ((rs.map V.ref).length : Int) - (m : Int)).toNat) (fun i H4 => ∃ ts, H4 C = some (.lst (ts.map V.ref)) ∧ FtAt H4 ts (((List.range i).filter fun i => !hadB ds o ((m + i : Nat) : Int)).map fun i => ((("drop" : Str), ((m + i : Nat) : Int)) : Str × Int)) ∧ ts.length ≤ i ∧ Same H H4) ⟨[], upd_same, .nil, Nat.zero_le _, same_new hC⟩ (fun i H4 hi hp => ?_) (fun H4 hp => ?_)
    · obtain ⟨ts, eC, hts, tl, s4⟩ := hp
      rw [en] at hi
      have ev : (m : Int) + (i : Int) = ((m + i : Nat) : Int) := by omega
      rw [ev]
      refine ⟨rfl, .ref R, rfl, .int ((m + i : Nat) : Int), rfl, R, (m : Int), o, ((m + i : Nat) : Int), ds, rfl, (Same.tups s4).row hrow, by omega, fun H5 s5 => ?_⟩
      have eC5 := s5 _ _ eC
      have hts5 := ft_stay (Same.tups s5) hts
      refine ⟨_, rfl, ?_⟩
      cases hb : hadB ds o ((m + i : Nat) : Int) with
      | false =>
        refine iteT ?_
        refine ⟨.int ((m + i : Nat) : Int), rfl, (by show 2 ≤ sizeLine; decide), fun T hT => ?_⟩
        have sT := same_new (o := .tup [.str "drop", .int ((m + i : Nat) : Int)]) hT
        have eDT := sT _ _ eC5
        have tF := tups_put (o := .lst (ts.map V.ref ++ [V.ref T])) eDT
        refine ⟨_, eDT, by rw [List.length_map]; exact small1000 (by omega), ts ++ [T], by rw [upd_same, List.map_append]; rfl, ?_, by rw [List.length_append]; show ts.length + 1 ≤ _; omega, fun b u e => ?_⟩
        · rw [rs1, List.filter_append, List.map_append]
          have e1 : [i].filter (fun i => !hadB ds o ((m + i : Nat) : Int)) = [i] := fil1 (by show (!hadB ds o ((m + i : Nat) : Int)) = true; rw [hb]; rfl)
          rw [e1]
          exact ft_stay tF (awSnoc (F := fun (t : Addr) (e : Str × Int) => (upd H5 T (.tup [.str "drop", .int ((m + i : Nat) : Int)])) t = some (.tup [.str e.1, .int e.2])) (x := T) (y := ((("drop" : Str), ((m + i : Nat) : Int)) : Str × Int)) upd_same (ft_stay (Same.tups sT) hts5))
        · rw [upd_ne (ne_of_none e hC)]
          exact sT _ _ (s5 _ _ (s4 _ _ e))
      | true =>
        refine iteF ?_
        refine ⟨ts, eC5, ?_, by omega, s4.trans s5⟩
        rw [rs1, List.filter_append]
        have e1 : [i].filter (fun i => !hadB ds o ((m + i : Nat) : Int)) = [] := fil0 (by show (!hadB ds o ((m + i : Nat) : Int)) = false; rw [hb]; rfl)
        rw [e1, List.append_nil]
        exact hts5
    · obtain ⟨ts, eC, hts, tl, s4⟩ := hp
      rw [en] at hts tl
      obtain ⟨dl, hdl⟩ : ∃ dl, dl = ((List.range ds.length).filter fun i => !hadB ds o ((m + i : Nat) : Int)).map fun i => ((("drop" : Str), ((m + i : Nat) : Int)) : Str × Int) := ⟨_, rfl⟩
      rw [← hdl] at hts
      refine ⟨.ref R, rfl, R, _, 0, .int (m : Int), rfl, rfl, SqT.of (s4 _ _ eR), rfl, .ref R, rfl, R, _, 0, .int (m : Int), rfl, rfl, SqT.of (s4 _ _ eR), rfl, .ref R, rfl, R, _, 1, .ref D, rfl, rfl, SqT.of (s4 _ _ eR), rfl, D, _, rfl, .inr (SqT.of (s4 _ _ eD)), (m : Int), _, rfl, rfl, (m : Int), (m : Int) + ((rs.map V.ref).length : Int), rfl, ?_, ?_⟩
      · rw [List.length_map, rl]
        omega
      have hC0 : ∀ b u, H b = some u → b ≠ C := fun b u e => ne_of_none e hC
      refine for_range (lo := (m : Int)) (n := ((m : Int) + ((rs.map V.ref).length : Int) - (m : Int)).toNat) (fun i σ H4 => ∃ (y1 : Option V) (us : List Addr), σ = [some (.ref R), y1, some (.ref C)] ∧ H4 C = some (.lst (us.map V.ref)) ∧
        FtAt H4 us (dl ++ ((List.range i).filter fun i => hadB ds o ((m + i : Nat) : Int) && !decide (frs m ds (m + i) = m + i)).map fun i => ((("same" : Str), ((m + i : Nat) : Int)) : Str × Int)) ∧ us.length ≤ ds.length + i ∧ Same H H4)
        ⟨_, ts, rfl, eC, by rw [List.range_zero]; simpa using hts, by omega, s4⟩ (fun i σ H4 hi hp => ?_) (fun σ H4 hp => ?_)
      · obtain ⟨y1, us, rfl, eC, hus, ul, s4⟩ := hp
        rw [en] at hi
        have ev : (m : Int) + (i : Int) = ((m + i : Nat) : Int) := by omega
        rw [ev]
        refine ⟨.ref R, rfl, .int ((m + i : Nat) : Int), rfl, R, (m : Int), o, ((m + i : Nat) : Int), ds, rfl, (Same.tups s4).row hrow, by omega, fun H5 s5 => ?_⟩
        have eC5 := s5 _ _ eC
        have hus5 := ft_stay (Same.tups s5) hus
        refine ⟨_, rfl, ?_⟩
        cases hb : hadB ds o ((m + i : Nat) : Int) with
        | false =>
          refine iteF ?_
          refine ⟨_, us, rfl, eC5, ?_, by omega, s4.trans s5⟩
          rw [rs1, List.filter_append]
          have e1 : [i].filter (fun i => hadB ds o ((m + i : Nat) : Int) && !decide (frs m ds (m + i) = m + i)) = [] := fil0 (by show (hadB ds o ((m + i : Nat) : Int) && _) = false; rw [hb]; rfl)
          rw [e1, List.append_nil]
          exact hus5
        | true =>
          refine iteT ?_
          have s05 := s4.trans s5
          refine ⟨.ref R, rfl, .int ((m + i : Nat) : Int), rfl, R, m, m + i, o, ds, rfl, (Same.tups s05).row hrow, ok, by omega, by omega, fun H6 s6 => ?_⟩
          have eC6 := s6 _ _ eC5
          have hus6 := ft_stay (Same.tups s6) hus5
          have s06 := s05.trans s6
          by_cases ef : frs m ds (m + i) = m + i
          · rw [if_pos ef]
            refine ⟨rfl, _, rfl, iteF ?_⟩
            refine ⟨_, us, rfl, eC6, ?_, by omega, s06⟩
            rw [rs1, List.filter_append]
            have e1 : [i].filter (fun i => hadB ds o ((m + i : Nat) : Int) && !decide (frs m ds (m + i) = m + i)) = [] := fil0 (by show (hadB ds o ((m + i : Nat) : Int) && !decide (frs m ds (m + i) = m + i)) = false; rw [hb, decide_eq_true ef]; rfl)
            rw [e1, List.append_nil]
            exact hus6
          · rw [if_neg ef]
            refine ⟨rfl, _, rfl, iteT ?_⟩
            refine ⟨.ref C, rfl, .inl ⟨rfl, _, .inl (.inl eC6)⟩, .int ((m + i : Nat) : Int), rfl, (by show 2 ≤ sizeLine; decide), fun T hT => ?_⟩
            have sT := same_new (o := .tup [.str "same", .int ((m + i : Nat) : Int)]) hT
            have eCT := sT _ _ eC6
            have tF := tups_put (o := .lst (us.map V.ref ++ [V.ref T])) eCT
            refine ⟨C, _, _, rfl, rfl, eCT, by rw [List.length_map]; exact small1000 (by omega), ?_⟩
            refine ⟨_, us ++ [T], rfl, by rw [upd_same, List.map_append]; rfl, ?_, by rw [List.length_append]; show us.length + 1 ≤ _; omega, fun b u e => ?_⟩
            · rw [rs1, List.filter_append, List.map_append, ← List.append_assoc]
              have e1 : [i].filter (fun i => hadB ds o ((m + i : Nat) : Int) && !decide (frs m ds (m + i) = m + i)) = [i] := fil1 (by show (hadB ds o ((m + i : Nat) : Int) && !decide (frs m ds (m + i) = m + i)) = true; rw [hb, decide_eq_false ef]; rfl)
              rw [e1]
              exact ft_stay tF (awSnoc (F := fun (t : Addr) (e : Str × Int) => (upd H6 T (.tup [.str "same", .int ((m + i : Nat) : Int)])) t = some (.tup [.str e.1, .int e.2])) (x := T) (y := ((("same" : Str), ((m + i : Nat) : Int)) : Str × Int)) upd_same (ft_stay (Same.tups sT) hus6))
            · rw [upd_ne (hC0 b u e)]
              exact sT _ _ (s06 b u e)
      · obtain ⟨y1, us, rfl, eC, hus, ul, s4⟩ := hp
        rw [en, hdl] at hus
        exact ⟨.ref C, rfl, q H4 C us s4 hC eC hus⟩
/-! ### deeds as data (parts of sec_bent, sec_like) -/
theorem lay_deed {m : Int} {d : Deed} (h : DeedOk m d) : PyData.canLay0 (deedD d) = true ∧ PyData.depth (deedD d) = 1 := by
  obtain ⟨h1, h2⟩ := lay_ints d.2
  have h3 : PyData.strOk d.1 = true := fw_ok _ (List.mem_map.mpr ⟨_, h.word, rfl⟩)
  unfold deedD
  exact ⟨by simp only [PyData.canLay0, PyData.canLayAll0, h1, h3, Bool.and_self], by simp only [PyData.depth, PyData.depthAll, h2, Nat.max_self]⟩
theorem lay_deeds : ∀ {ds : List Deed}, (∀ d ∈ ds, ∃ m, DeedOk m d) → PyData.canLayAll0 (ds.map deedD) = true ∧ PyData.depthAll (ds.map deedD) ≤ 1
  | [], _ => ⟨by simp only [List.map_nil, PyData.canLayAll0], by simp only [List.map_nil, PyData.depthAll]; decide⟩
  | d :: ds, h => by
    obtain ⟨h1, h2⟩ := lay_deeds fun e he => h e (List.mem_cons_of_mem _ he)
    obtain ⟨m, hm⟩ := h d List.mem_cons_self
    obtain ⟨g1, g2⟩ := lay_deed hm
    exact ⟨by simp only [List.map_cons, PyData.canLayAll0, h1, g1, Bool.and_self], by simp only [List.map_cons, PyData.depthAll, g2]; omega⟩
theorem deeds_shaped {ds : List Deed} (h : ∀ d ∈ ds, ∃ m, DeedOk m d) : SeqAt.shaped (.tuple (ds.map deedD)) = true := by
  obtain ⟨h1, h2⟩ := lay_deeds h
  have h3 : PyData.depthAll (ds.map deedD) = 0 ∨ PyData.depthAll (ds.map deedD) = 1 := by omega
  rcases h3 with h3 | h3
  · simp only [SeqAt.shaped, PyData.canLay0, PyData.depth, h1, h3, Bool.true_and]
    decide
  · simp only [SeqAt.shaped, PyData.canLay0, PyData.depth, h1, h3, Bool.true_and]
    decide
theorem dsOk_mems {m : Int} {ds : List Deed} (h : DsOk m ds) : ∀ d ∈ ds, ∃ m, DeedOk m d := fun d hd => by
  obtain ⟨k, hk⟩ := List.mem_iff_getElem?.mp hd
  exact ⟨_, h.each k d hk⟩
theorem dp_deeds {H : Hp} : ∀ {rs : List Addr} {ds : List Deed}, DsAt H rs ds → DpAll K H (rs.map V.ref) (ds.map deedD)
  | _, _, .nil => .nil
  | _, _, .cons h t => .cons (.tup (SqT.of h) (.cons (.str _) (dp_ints _))) (dp_deeds t)
theorem eqv_nilT (l : List PyData) : PyData.eqv (.tuple l) (.tuple []) = l.isEmpty := by
  cases l <;> simp only [PyData.eqv, PyData.eqvAll, List.isEmpty_nil, List.isEmpty_cons]
theorem dsOk_app' {m : Int} {ds es : List Deed} (h : DsOk m ds) (k : DsOk (m + ds.length) es) : DsOk m (ds ++ es) := by
  constructor
  intro i d' e
  by_cases hi : i < ds.length
  · rw [List.getElem?_append_left hi] at e
    exact h.each i d' e
  · rw [List.getElem?_append_right (by omega)] at e
    have := k.each _ d' e
    have e2 : m + (ds.length : Int) + ((i - ds.length : Nat) : Int) = m + (i : Int) := by omega
    rw [e2] at this
    exact this
theorem but_free {a b : Addr} {H H' : Hp} (t : TP H' a) (k : But a H H') (h : H' b = none) : H b = none := by
  cases e : H b with
  | none => rfl
  | some u =>
    have n : b ≠ a := fun z => by
      obtain ⟨x, y, ea⟩ := t
      rw [z, ea] at h
      cases h
    rw [k b u n e] at h
    cases h
/-! ### k54: _law_long_row -/
def spLg : Sp := fun vs H Q _ => ∃ a : Addr, vs = [.ref a] ∧ TP H a ∧ ∀ H' R (m : Nat) ds o, RowAt H' R m ds o → RowOk m ds o → TP H' a → But a H H' → Q (.ref R) H'
set_option maxHeartbeats 4000000 in
theorem ok_lg {f fD fR fW : Addr} {fd fdD fdR fdW : FuncData} {k : Nat} (F : Fun K "_law_long_row" "_law_long_row" s_law_long_row f fd)
    (GD : FnOk P w K mg base CX0 (k + 1) fD fdD ["tape", "many"] spDigit) (kD : PySem.W.keepIn K (.ref fD) = true) (bD : Binds K fdD ["tape", "many"] []) (gD : mg "_law_digit" = some (.ref fD))
    (GR : FnOk P w K mg base CX0 (k + 3) fR fdR ["tape", "many", "most", "left"] spTr) (kR : PySem.W.keepIn K (.ref fR) = true) (bR : Binds K fdR ["tape", "many", "most", "left"] []) (gR : mg "_law_row" = some (.ref fR))
    (GW : FnOk P w K mg base CX0 (k + 2) fW fdW ["tape", "deed", "at"] spRw) (kW : PySem.W.keepIn K (.ref fW) = true) (bW : Binds K fdW ["tape", "deed", "at"] []) (gW : mg "_law_rewritten" = some (.ref fW))
    (mr : mg "range" = none) (mn : mg "len" = none) (mt : mg "tuple" = none) : FnOk P w K mg base CX0 (k + 4) f fd ["tape"] spLg := by
  refine F.ok sc_law_long_row (fun vs H Q E h => ?_) (fun cdv A outer s H vs Q E hr h => ?_)
  · obtain ⟨a, rfl, _⟩ := h
    rfl
  · obtain ⟨a, rfl, ht, q⟩ := h
    have R1 := hr.mono (show k + 1 ≤ k + 3 by omega)
    have R2 := hr.mono (show k + 2 ≤ k + 3 by omega)
    refine ⟨_, pss_cons (ps_set (i := 1) sc_law_long_row.nd rfl (.inl rfl) (pe_call GR hr (by rfl) gR kR bR .nil pass0 (pa_cons (pv 0) (pa_cons (pe_op op_add pe_int (pe_call GD R1 (by rfl) gD kD bD .nil pass0 (pa_cons (pv 0) (pa_cons pe_int pa_nil)))) (pa_cons pe_int (pa_cons pe_int pa_nil))))))
    (pss_cons (ps_for PassesOwn.never rfl (pi_range1 (by rfl) mr (pa_cons (pe_call GD R1 (by rfl) gD kD bD .nil pass0 (pa_cons (pv 0) (pa_cons pe_int pa_nil))) pa_nil)) (pg_name (i := 2) sc_law_long_row.nd rfl (.inl rfl))
    (pss_cons (ps_asg (pv 1) (pg_tup rfl (pgs_cons (pg_name (i := 3) sc_law_long_row.nd rfl (.inl rfl)) (pgs_cons (pg_name (i := 4) sc_law_long_row.nd rfl (.inl rfl)) (pgs_cons (pg_name (i := 5) sc_law_long_row.nd rfl (.inl rfl)) pgs_nil)))))
    (pss_one (ps_if (PW.pt (pw_and (pt_cmpR (op_neD hr.units) (pv 4) (pe_tup pa_nil) (nomark _)) (pw_and1 (pt_cmpR op_lt (pe_callB call_len_seq (by rfl) mn PySem.boot_len (pa_cons (pv 4) pa_nil)) pe_int (nomark _)))))
    (pss_cons (ps_set (i := 6) sc_law_long_row.nd rfl (.inl rfl) (pe_call GD R1 (by rfl) gD kD bD .nil pass0 (pa_cons (pv 0) (pa_cons (pe_callB call_len_seq (by rfl) mn PySem.boot_len (pa_cons (pv 4) pa_nil)) pa_nil))))
    (pss_cons (ps_set (i := 7) sc_law_long_row.nd rfl (.inl rfl) (pe_op op_add (pv 3) (pe_callB call_len_seq (by rfl) mn PySem.boot_len (pa_cons (pv 4) pa_nil))))
    (pss_cons (ps_set (i := 8) sc_law_long_row.nd rfl (.inl rfl) (pe_call GW R2 (by rfl) gW kW bW .nil pass0 (pa_cons (pv 0) (pa_cons (pe_ix ix_tup (pv 4) (pv 6) (fun _ _ => rfl)) (pa_cons (pv 7) pa_nil)))))
    (pss_one (ps_if (pt_cmpR op_lt (pe_op op_add (pe_callB call_len_seq (by rfl) mn PySem.boot_len (pa_cons (pv 4) pa_nil)) (pe_callB call_len_seq (by rfl) mn PySem.boot_len (pa_cons (pv 8) pa_nil))) pe_int (nomark _))
    (pss_cons (ps_set (i := 9) sc_law_long_row.nd rfl (.inl rfl) (pe_op op_sub (pe_op op_add (pv 7) (pe_callB call_len_seq (by rfl) mn PySem.boot_len (pa_cons (pv 8) pa_nil))) pe_int))
    (pss_cons (ps_set (i := 10) sc_law_long_row.nd rfl (.inl rfl) (pe_tup (pa_cons (pe_ix ix_list (pe_lst (pa_cons pe_str (pa_cons pe_str (pa_cons pe_str (pa_cons pe_str pa_nil))))) (pe_call GD R1 (by rfl) gD kD bD .nil pass0 (pa_cons (pv 0) (pa_cons pe_int pa_nil))) (fun _ _ => rfl)) (pa_cons (pe_ix ix_list (pe_lst (pa_cons (pv 5) (pa_cons (pe_op op_add (pv 3) (pv 6)) pa_nil))) (pe_call GD R1 (by rfl) gD kD bD .nil pass0 (pa_cons (pv 0) (pa_cons pe_int pa_nil))) (fun _ _ => rfl)) (pa_cons (pv 9) pa_nil)))))
    (pss_one (ps_set (i := 1) sc_law_long_row.nd rfl (.inl rfl) (pe_tup (pa_cons (pv 3) (pa_cons (pe_op op_catZ (pe_op op_catZ (pv 4) (pe_callTy call_tuple_of (by rfl) mt (by decide +kernel) (pa_cons (pv 8) pa_nil))) (pe_tup (pa_cons (pv 10) pa_nil))) (pa_cons (pe_op op_add (pv 9) (pe_call GD R1 (by rfl) gD kD bD .nil pass0 (pa_cons (pv 0) (pa_cons pe_int pa_nil)))) pa_nil))))))))
    pss_nil)))))
    pss_nil))))
    (pss_one (ps_ret (pv 1)))), ?_⟩
    refine ⟨.ref a, rfl, .ref a, rfl, a, 3, rfl, by decide, by decide, ht, fun H1 z z0 z1 t1 b1 => ?_⟩
    obtain ⟨m, hm⟩ : ∃ m : Nat, 1 + z = (m : Int) := ⟨(1 + z).toNat, by omega⟩
    refine ⟨1, z, rfl, rfl, a, (m : Int), 4, 2, by show [V.ref a, V.int (1 + z), V.int 4, V.int 2] = _; rw [hm], by omega, by omega, by decide, by decide, t1, fun H2 R ds o hrow ok _ _ t2 b2 => ?_⟩
    have b02 := b1.trans b2
    refine ⟨.ref a, rfl, a, 3, rfl, by decide, by decide, t2, fun H3 n n0 n1 t3 b3 => ?_⟩
    refine ⟨n, rfl, by omega, by omega, for_range (lo := 0) (n := n.toNat) (fun i σ H4 => ∃ (R' : Addr) (ds' : List Deed) (o' : Int) (y2 y3 y4 y5 y6 y7 y8 y9 y10 : Option V), σ = [some (.ref a), some (.ref R'), y2, y3, y4, y5, y6, y7, y8, y9, y10] ∧ RowAt H4 R' m ds' o' ∧ RowOk m ds' o' ∧ TP H4 a ∧ But a H H4)
      ⟨R, ds, o, none, none, none, none, none, none, none, none, none, rfl, (b3.tape t2).row hrow, ok, t3, b02.trans b3⟩ (fun i σ H4 hi hp => ?_) (fun σ H4 hp => ?_)⟩
    · obtain ⟨R', ds', o', y2, y3, y4, y5, y6, y7, y8, y9, y10, rfl, hrow4, ok4, t4, b4⟩ := hp
      obtain ⟨D, rs, eR, eD, hd⟩ := id hrow4
      have m1 := ok4.m1
      have m3 := ok4.m3
      have l8 := ok4.len
      have o0 := ok4.o0
      have o1 := ok4.o1
      have rl := awLen hd
      have hmm := dsOk_mems ok4.deeds
      refine ⟨.ref R', rfl, R', [.int m, .ref D, .int o'], rfl, SqT.of eR, rfl, .int m, [.ref D, .int o'], rfl, .ref D, [.int o'], rfl, .int o', [], rfl, rfl, ?_⟩
      refine ⟨.ref D, rfl, by show 0 ≤ sizeLine; decide, fun Z hZ => ?_⟩
      have sZ := same_new (o := .tup []) hZ
      have tZ := t4.same sZ
      have bZ := b4.trans (But.same (f := a) sZ)
      have hdZ := (Same.tups sZ).ds hd
      have eDZ := sZ _ _ eD
      have hrowZ := (Same.tups sZ).row hrow4
      refine ⟨.tuple (ds'.map deedD), .tuple [], .tup (SqT.of eDZ) (dp_deeds hdZ), .tup (SqT.of upd_same) .nil, deeds_shaped hmm, deeds_shaped (ds := []) (fun _ z => nomatch z), _, rfl, ?_⟩
      rw [eqv_nilT]
      refine ite2 (fun e => ?_) (fun e => ?_)
      · have dpos : 0 < ds'.length := by
          cases ds' with
          | nil => simp at e
          | cons _ _ => exact Nat.succ_pos _
        refine ⟨.ref D, rfl, D, _, rfl, .inr (SqT.of eDZ), _, 6, rfl, rfl, _, rfl, ite2 (fun e => ?_) (fun e => ?_)⟩
        · have d6 : ds'.length < 6 := by
            have := of_decide_eq_true e
            rw [List.length_map, rl] at this
            omega
          refine ⟨.ref a, rfl, .ref D, rfl, D, _, rfl, .inr (SqT.of eDZ), a, _, rfl, by rw [List.length_map, rl]; omega, by rw [List.length_map, rl]; omega, tZ, fun H5 at0 a0 a1 t5 b5 => ?_⟩
          rw [List.length_map, rl] at a1
          have eD5 := b5.tape tZ _ _ eDZ
          have hd5 := (b5.tape tZ).ds hdZ
          have elen : (m : Int) + ((rs.map V.ref).length : Int) = ((m + ds'.length : Nat) : Int) := by rw [List.length_map, rl]; omega
          refine ⟨.int (m : Int), rfl, .ref D, rfl, D, _, rfl, .inr (SqT.of eD5), (m : Int), _, rfl, rfl, ?_⟩
          have ev2 : (fun (i j : Int) => V.int (i + j)) (m : Int) ((rs.map V.ref).length : Int) = V.int ((m + ds'.length : Nat) : Int) := congrArg V.int elen
          rw [ev2]
          obtain ⟨j, rfl⟩ := Int.eq_ofNat_of_zero_le a0
          have jl : j < ds'.length := by omega
          obtain ⟨r, hr1, hr2⟩ := awGet2 hd5 (List.getElem?_eq_getElem jl)
          have okd := ok4.deeds.each j _ (List.getElem?_eq_getElem jl)
          refine ⟨.ref a, rfl, .ref D, rfl, .int ((j : Nat) : Int), rfl, D, _, ((j : Nat) : Int), .ref r, rfl, rfl, SqT.of eD5, atI_nat (by rw [List.getElem?_map, hr1]; rfl), .int ((m + ds'.length : Nat) : Int), rfl, a, r, ds'[j]'jl, ((m + ds'.length : Nat) : Int), rfl, t5, hr2, okd_more okd (by omega), by omega, fun H6 l rs6 es t6 b6 el hes rwd => ?_⟩
          have eD6 := b6.tape t5 _ _ eD5
          have hd6 := (b6.tape t5).ds hd5
          have esl := awLen hes
          have l1 := rwd.l1
          have l4 := rwd.l4
          have b06 := (bZ.trans b5).trans b6
          have hrow6 := (b6.tape t5).row ((b5.tape tZ).row hrowZ)
          refine ⟨.ref D, rfl, D, _, rfl, .inr (SqT.of eD6), .ref l, rfl, l, _, rfl, .inl (.inl (.inl el)), _, _, rfl, rfl, _, 8, rfl, rfl, _, rfl, ite2 (fun e => ?_) (fun e => ?_)⟩
          · have d8 : ds'.length + es.length < 8 := by
              have := of_decide_eq_true e
              rw [List.length_map, List.length_map, rl, esl] at this
              omega
            have elast : ((m + ds'.length : Nat) : Int) + ((rs6.map V.ref).length : Int) - 1 = ((m + ds'.length + es.length - 1 : Nat) : Int) := by rw [List.length_map, esl]; omega
            refine ⟨.int ((m + ds'.length : Nat) : Int), rfl, .ref l, rfl, l, _, rfl, .inl (.inl (.inl el)), _, _, rfl, rfl, _, 1, rfl, rfl, ?_⟩
            have ev3 : (fun (i j : Int) => V.int (i - j)) (((m + ds'.length : Nat) : Int) + ((rs6.map V.ref).length : Int)) 1 = V.int ((m + ds'.length + es.length - 1 : Nat) : Int) := congrArg V.int elast
            rw [ev3]
            obtain ⟨la, hla⟩ : ∃ la : Nat, la = m + ds'.length + es.length - 1 := ⟨_, rfl⟩
            rw [← hla]
            refine ⟨(by show 4 ≤ sizeLine; decide), fun M1 hM1 => ?_⟩
            have sM1 := same_new (o := .lst [.str "xor", .str "and", .str "add", .str "or"]) hM1
            have nM1 := t6.ne_new hM1
            refine ⟨.ref a, rfl, a, 4, rfl, by decide, by decide, t6.same sM1, fun H7 z7 z70 z71 t7 b7 => ?_⟩
            obtain ⟨x, hx, xw⟩ : ∃ x, atI [V.str "xor", .str "and", .str "add", .str "or"] z7 = some (.str x) ∧ (x, (2 : Int)) ∈ fwL := by
              have h4 : z7 = 0 ∨ z7 = 1 ∨ z7 = 2 ∨ z7 = 3 := by omega
              rcases h4 with rfl | rfl | rfl | rfl
              · exact ⟨"xor", rfl, by decide +kernel⟩
              · exact ⟨"and", rfl, by decide +kernel⟩
              · exact ⟨"add", rfl, by decide +kernel⟩
              · exact ⟨"or", rfl, by decide +kernel⟩
            refine ⟨M1, _, z7, .str x, rfl, rfl, .inl (.inl (b7 _ _ nM1 upd_same)), hx, ?_⟩
            refine ⟨.int o', rfl, .int (m : Int), rfl, .int ((j : Nat) : Int), rfl, (m : Int), ((j : Nat) : Int), rfl, rfl, (by show 2 ≤ sizeLine; decide), fun M2 hM2 => ?_⟩
            have sM2 := same_new (o := .lst [.int o', .int ((m : Int) + (j : Int))]) hM2
            have nM2 := t7.ne_new hM2
            refine ⟨.ref a, rfl, a, 2, rfl, by decide, by decide, t7.same sM2, fun H8 z8 z80 z81 t8 b8 => ?_⟩
            obtain ⟨y, hy, y0, y1⟩ : ∃ y, atI [V.int o', .int ((m : Int) + (j : Int))] z8 = some (.int y) ∧ 0 ≤ y ∧ y < ((m + ds'.length : Nat) : Int) := by
              have h2 : z8 = 0 ∨ z8 = 1 := by omega
              rcases h2 with rfl | rfl
              · exact ⟨o', rfl, o0, by omega⟩
              · exact ⟨(m : Int) + (j : Int), rfl, by omega, by omega⟩
            refine ⟨M2, _, z8, .int y, rfl, rfl, .inl (.inl (b8 _ _ nM2 upd_same)), hy, ?_⟩
            refine ⟨.int (la : Int), rfl, (by show 3 ≤ sizeLine; decide), fun J hJ => ?_⟩
            have sJ := same_new (o := .tup [.str x, .int y, .int (la : Int)]) hJ
            have b68 := ((But.same (f := a) sM1).trans b7).trans ((But.same (f := a) sM2).trans b8)
            have b6J := b68.trans (But.same (f := a) sJ)
            have tJ := t8.same sJ
            have nl : l ≠ a := fun z => by
              obtain ⟨x, y, ea⟩ := t6
              rw [z] at el
              rw [ea] at el
              have := HO.lst.inj (Option.some.inj el)
              cases rs6 with
              | nil => cases this
              | cons _ _ => cases this
            have elJ := b6J _ _ nl el
            have hes6 := (b6J.tape t6).ds hes
            have eDJ := b6J.tape t6 _ _ eD6
            have hdJ := (b6J.tape t6).ds hd6
            refine ⟨.int (m : Int), rfl, .ref D, rfl, .ref l, rfl, l, _, rfl, .inl ⟨.inl (.inl elJ), fun V1 hV1 => ?_⟩⟩
            have sV := same_new (o := .tup (rs6.map V.ref)) hV1
            refine ⟨D, V1, _, _, rfl, rfl, sV _ _ eDJ, upd_same, by rw [List.length_map, List.length_map, sizeLine_eq]; omega, fun p7 H9 s9 e9 => ?_⟩
            refine ⟨.ref J, rfl, (by show 1 ≤ sizeLine; decide), fun U hU => ?_⟩
            have sU := same_new (o := .tup [.ref J]) hU
            refine ⟨p7, U, _, _, rfl, rfl, sU _ _ e9, upd_same, by rw [List.length_append, List.length_map, List.length_map, sizeLine_eq]; show _ + 1 ≤ _; omega, fun p8 H10 s10 e10 => ?_⟩
            have sJ10 := sV.trans (s9.trans (sU.trans s10))
            have t10 := tJ.same sJ10
            refine ⟨.int (la : Int), rfl, .ref a, rfl, a, 2, rfl, by decide, by decide, t10, fun H11 z9 z90 z91 t11 b11 => ?_⟩
            refine ⟨_, _, rfl, rfl, (by show 3 ≤ sizeLine; decide), fun R2 hR2 => ?_⟩
            have sR2 := same_new (o := .tup [.int (m : Int), .ref p8, .int ((la : Int) + z9)]) hR2
            have e11 := b11.tape t10 _ _ e10
            have bJ11 := (But.same (f := a) sJ10).trans b11
            have b6_11 := b6J.trans bJ11
            have hd11 := (bJ11.tape tJ).ds hdJ
            have hes11 := (bJ11.tape tJ).ds hes6
            have eJ11 : H11 J = some (.tup (dV (x, [y, (la : Int)]))) := bJ11.tape tJ _ _ upd_same
            have hall := awSnoc (F := fun (r : Addr) (d : Deed) => H11 r = some (.tup (dV d))) eJ11 (awAppend hd11 hes11)
            refine ⟨R2, ds' ++ es ++ [(x, [y, (la : Int)])], (la : Int) + z9, _, _, _, _, _, _, _, _, _, rfl, ⟨p8, rs ++ rs6 ++ [J], upd_same, ?_, awMap (fun _ _ e => sR2 _ _ e) hall⟩, ⟨m1, m3, ?_, ?_, by omega, ?_⟩, t11.same sR2, (b06.trans b6_11).trans (But.same (f := a) sR2)⟩
            · rw [sR2 _ _ e11, List.map_append, List.map_append]
              rfl
            · rw [List.length_append, List.length_append]
              show _ + 1 ≤ 8
              omega
            · refine dsOk_snoc (dsOk_app' ok4.deeds (by rw [show (m : Int) + (ds'.length : Int) = ((m + ds'.length : Nat) : Int) by omega]; exact rwd.ok)) ⟨xw, fun i hi => ?_⟩
              rw [List.length_append]
              rcases List.mem_cons.mp hi with rfl | hi
              · omega
              · rw [List.mem_singleton.mp hi]
                omega
            · rw [List.length_append, List.length_append]
              show _ < (m : Int) + ((_ + 1 : Nat) : Int)
              omega
          · exact ⟨R', ds', o', _, _, _, _, _, _, _, _, _, rfl, hrow6, ok4, t6, b06⟩
        · exact ⟨R', ds', o', _, _, _, _, _, _, _, _, _, rfl, hrowZ, ok4, tZ, bZ⟩
      · exact ⟨R', ds', o', _, _, _, _, _, _, _, _, _, rfl, hrowZ, ok4, tZ, bZ⟩
    · obtain ⟨R', ds', o', y2, y3, y4, y5, y6, y7, y8, y9, y10, rfl, hrow4, ok4, t4, b4⟩ := hp
      exact ⟨.ref R', rfl, q H4 R' m ds' o' hrow4 ok4 t4 b4⟩
/-! ### k54: what a rule leaves is a row -/
theorem had_ne {ds : List Deed} {o v : Int} (h : hadB ds o v = false) : v ≠ o ∧ ∀ d ∈ ds, v ∉ d.2 := by
  unfold hadB at h
  rw [Bool.or_eq_false_iff] at h
  refine ⟨of_decide_eq_false h.1, fun d hd z => ?_⟩
  have := List.any_eq_false.mp h.2 d hd
  exact this (decide_eq_true z)
theorem fitL_drop {m : Nat} {ds : List Deed} {o : Int} {e : Str × Int} (h : e ∈ fitL m ds o) (he : e.1 = "drop") : ∃ i, i < ds.length ∧ e.2 = ((m + i : Nat) : Int) ∧ hadB ds o ((m + i : Nat) : Int) = false := by
  unfold fitL at h
  rcases List.mem_append.mp h with h | h
  · obtain ⟨i, hi, rfl⟩ := List.mem_map.mp h
    obtain ⟨h1, h2⟩ := List.mem_filter.mp hi
    exact ⟨i, List.mem_range.mp h1, rfl, by simpa using h2⟩
  · obtain ⟨i, _, rfl⟩ := List.mem_map.mp h
    exact absurd (show ("same" : Str) = "drop" from he) (by decide +kernel)
theorem deedOk_map {n n' : Int} {d : Deed} (h : DeedOk n d) (g : Int → Int) (hg : ∀ z ∈ d.2, 0 ≤ g z ∧ g z < n') : DeedOk n' (d.1, d.2.map g) :=
  ⟨by show (d.1, ((d.2.map g).length : Int)) ∈ fwL; rw [List.length_map]; exact h.word, fun i hi => by
    obtain ⟨z, hz, rfl⟩ := List.mem_map.mp hi
    exact hg z hz⟩
theorem nuD_get {n : Nat} {v z : Int} (z0 : 0 ≤ z) (z1 : z < n) : (nuD n v).getD z.toNat 0 = if z > v then z - 1 else z := by
  unfold nuD
  rw [List.getD_eq_getElem?_getD, List.getElem?_map, List.getElem?_range (by omega)]
  show (if ((z.toNat : Nat) : Int) > v then ((z.toNat : Nat) : Int) - 1 else ((z.toNat : Nat) : Int)) = _
  rw [show ((z.toNat : Nat) : Int) = z by omega]
theorem nuB_get {n v f : Nat} {z : Int} (z0 : 0 ≤ z) (z1 : z < n) : (nuB n v f).getD z.toNat 0 = if z = (v : Int) then (f : Int) else z := by
  unfold nuB
  rw [List.getD_eq_getElem?_getD, List.getElem?_set, List.length_map, List.length_range]
  by_cases c : z = (v : Int)
  · rw [if_pos (by omega), if_pos (by omega), if_pos c]
    rfl
  · rw [if_neg (by omega), if_neg c, List.getElem?_map, List.getElem?_range (by omega)]
    show ((z.toNat : Nat) : Int) = z
    omega
theorem drp_ok {m i : Nat} {ds : List Deed} {o : Int} (ok : RowOk m ds o) (hi : i < ds.length) (hh : hadB ds o ((m + i : Nat) : Int) = false) : RowOk m (drpD m ds i) (drpO m ds o i) := by
  obtain ⟨no, nd⟩ := had_ne hh
  have m1 := ok.m1
  have o0 := ok.o0
  have o1 := ok.o1
  have l8 := ok.len
  have dl : (drpD m ds i).length = ds.length - 1 := by
    unfold drpD
    rw [List.length_map, List.length_append, List.length_take, List.length_drop]
    omega
  have eo : drpO m ds o i = if o > ((m + i : Nat) : Int) then o - 1 else o := nuD_get o0 (by omega)
  refine ⟨m1, ok.m3, by omega, ⟨fun k d' e => ?_⟩, ?_, ?_⟩
  · unfold drpD at e
    rw [List.getElem?_map] at e
    obtain ⟨d, hd, rfl⟩ := Option.map_eq_some_iff.mp e
    have tl : (ds.take i).length = i := by rw [List.length_take]; omega
    by_cases c : k < i
    · rw [List.getElem?_append_left (by omega), List.getElem?_take, if_pos c] at hd
      have okd := ok.deeds.each k d hd
      unfold renD
      refine deedOk_map okd _ fun z hz => ?_
      obtain ⟨z0, z1⟩ := okd.ahead z hz
      rw [nuD_get z0 (by omega), if_neg (by omega)]
      exact ⟨z0, z1⟩
    · rw [List.getElem?_append_right (by omega), tl, List.getElem?_drop, show i + 1 + (k - i) = k + 1 by omega] at hd
      have okd := ok.deeds.each (k + 1) d hd
      have kl := (List.getElem?_eq_some_iff.mp hd).1
      unfold renD
      refine deedOk_map okd _ fun z hz => ?_
      obtain ⟨z0, z1⟩ := okd.ahead z hz
      have ne : z ≠ ((m + i : Nat) : Int) := fun y => nd d (List.mem_of_getElem? hd) (y ▸ hz)
      rw [nuD_get z0 (by omega)]
      by_cases g : z > ((m + i : Nat) : Int)
      · rw [if_pos g]
        omega
      · rw [if_neg g]
        omega
  · rw [eo]
    by_cases g : o > ((m + i : Nat) : Int)
    · rw [if_pos g]
      omega
    · rw [if_neg g]
      exact o0
  · rw [eo, dl]
    by_cases g : o > ((m + i : Nat) : Int)
    · rw [if_pos g]
      omega
    · rw [if_neg g]
      omega
theorem bck_ok {m v f : Nat} {ds : List Deed} {o : Int} (ok : RowOk m ds o) (hf : f ≤ v) : RowOk m (bckD m ds v f) (bckO m ds o v f) := by
  have m1 := ok.m1
  have o0 := ok.o0
  have o1 := ok.o1
  have dl : (bckD m ds v f).length = ds.length := by
    unfold bckD
    rw [List.length_map]
  have eo : bckO m ds o v f = if o = (v : Int) then (f : Int) else o := nuB_get o0 (by omega)
  refine ⟨m1, ok.m3, by rw [dl]; exact ok.len, ⟨fun k d' e => ?_⟩, ?_, ?_⟩
  · unfold bckD at e
    rw [List.getElem?_map] at e
    obtain ⟨d, hd, rfl⟩ := Option.map_eq_some_iff.mp e
    have okd := ok.deeds.each k d hd
    have kl := (List.getElem?_eq_some_iff.mp hd).1
    unfold renD
    refine deedOk_map okd _ fun z hz => ?_
    obtain ⟨z0, z1⟩ := okd.ahead z hz
    rw [nuB_get z0 (by omega)]
    by_cases c : z = (v : Int)
    · rw [if_pos c]
      omega
    · rw [if_neg c]
      exact ⟨z0, z1⟩
  · rw [eo]
    by_cases c : o = (v : Int)
    · rw [if_pos c]
      omega
    · rw [if_neg c]
      exact o0
  · rw [eo, dl]
    by_cases c : o = (v : Int)
    · rw [if_pos c]
      omega
    · rw [if_neg c]
      exact o1
theorem put_ok {m : Nat} {ds : List Deed} {o : Int} {e : Str × Int} (ok : RowOk m ds o) (he : e ∈ fitL m ds o) : RowOk m (putD m ds e) (putO m ds o e) := by
  unfold putD putO
  by_cases c : e.1 = "drop"
  · obtain ⟨i, hi, e2, hh⟩ := fitL_drop he c
    rw [if_pos c, if_pos c, e2, Int.toNat_natCast, Nat.add_sub_cancel_left]
    exact drp_ok ok hi hh
  · rw [if_neg c, if_neg c]
    exact bck_ok ok (frs_spec m ds _).1
theorem nice_fD {e : Str × Int} {n : Nat} (h : FWd e.1) (hn : e.2 = (n : Int)) (h2 : n ≤ 100) : Nice 12 1 (fD e) := by
  unfold fD
  refine nice_tup (b := 5) (k := 0) (fun x hx => ?_) (by simp only [List.length_cons, List.length_nil]; decide)
  simp only [List.mem_cons, List.not_mem_nil, or_false] at hx
  rcases hx with rfl | rfl
  · rcases h with h | h
    · rw [h]
      exact nice_str (by decide +kernel) (by decide +kernel)
    · rw [h]
      exact nice_str (by decide +kernel) (by decide +kernel)
  · rw [hn]
    exact (nice_int (by omega)).mono (by decide) (by decide)
theorem fitL_len (m : Nat) (ds : List Deed) (o : Int) : (fitL m ds o).length ≤ 2 * ds.length := by
  unfold fitL
  rw [List.length_append, List.length_map, List.length_map]
  have h1 := List.length_filter_le (fun i => !hadB ds o ((m + i : Nat) : Int)) (List.range ds.length)
  have h2 := List.length_filter_le (fun i => hadB ds o ((m + i : Nat) : Int) && !decide (frs m ds (m + i) = m + i)) (List.range ds.length)
  rw [List.length_range] at h1 h2
  omega
theorem nice_fit {m : Nat} {ds : List Deed} {o : Int} (ok : RowOk m ds o) : Nice 208 2 (.list ((fitL m ds o).map fD)) := by
  have l8 := ok.len
  have m3 := ok.m3
  refine nice_lst (b := 12) (k := 1) (fun x hx => ?_) ?_
  · obtain ⟨e, he, rfl⟩ := List.mem_map.mp hx
    obtain ⟨i, hi, h2⟩ := fitL_mem he
    exact nice_fD (fitL_wd m ds o e he) h2 (by omega)
  · rw [List.length_map]
    have := fitL_len m ds o
    omega
theorem nd_fDs : ∀ l : List (Str × Int), PyData.hasDictAll (l.map fD) = false
  | [] => by simp only [List.map_nil, PyData.hasDictAll]
  | e :: l => by
    have ih := nd_fDs l
    simp only [List.map_cons, PyData.hasDictAll, ih, fD, PyData.hasDict, Bool.or_self]
/-! ### k55: what is asked, pairs of things -/
abbrev Pr := PyData × PyData
def PrAt (N : Addr → Prop) (H : Hp) (a : Addr) (p : Pr) : Prop := ¬ N a ∧ ∃ x y, H a = some (.tup [x, y]) ∧ AnyAt N H x p.1 ∧ AnyAt N H y p.2
theorem PrAt.stay {N : Addr → Prop} {H H' : Hp} (s : ButN N H H') {a : Addr} {p : Pr} (h : PrAt N H a p) : PrAt N H' a p := by
  obtain ⟨n, x, y, e, hx, hy⟩ := h
  exact ⟨n, x, y, s _ _ n e, any_stay s hx, any_stay s hy⟩
theorem PrAt.more {N N' : Addr → Prop} {H : Hp} (s : ∀ b u, N' b → H b = some u → N b) {a : Addr} {p : Pr} (h : PrAt N H a p) : PrAt N' H a p := by
  obtain ⟨n, x, y, e, hx, hy⟩ := h
  exact ⟨fun z => n (s _ _ z e), x, y, e, any_more s hx, any_more s hy⟩
abbrev PrsAt (N : Addr → Prop) (H : Hp) : List Addr → List Pr → Prop := Paired (PrAt N H)
theorem prs_stay {N : Addr → Prop} {H H' : Hp} (s : ButN N H H') {as : List Addr} {ps : List Pr} (h : PrsAt N H as ps) : PrsAt N H' as ps := awMap (fun _ _ h => h.stay s) h
theorem but_n {tp : Addr} {H H' : Hp} (b : But tp H H') : ButN (fun b => b = tp) H H' := fun c u n e => b c u n e
theorem all_stay {N : Addr → Prop} {H H' : Hp} (s : ButN N H H') : ∀ {vs : List V} {ds : List PyData}, AnyAll N H vs ds → AnyAll N H' vs ds
  | _, _, .nil => .nil
  | _, _, .cons h t => .cons (any_stay s h) (all_stay s t)
theorem all_get {N : Addr → Prop} {H : Hp} : ∀ {vs : List V} {ds : List PyData} {i : Nat} {x : V}, AnyAll N H vs ds → vs[i]? = some x → ∃ d, ds[i]? = some d ∧ AnyAt N H x d
  | _, _, _, _, .nil, e => by simp at e
  | _, _, 0, _, .cons h _, e => by
    simp only [List.getElem?_cons_zero, Option.some.injEq] at e
    subst e
    exact ⟨_, rfl, h⟩
  | _, _, i + 1, x, .cons _ t, e => by
    simp only [List.getElem?_cons_succ] at e ⊢
    exact all_get t e
theorem all_len {N : Addr → Prop} {H : Hp} : ∀ {vs : List V} {ds : List PyData}, AnyAll N H vs ds → vs.length = ds.length
  | _, _, .nil => rfl
  | _, _, .cons _ t => congrArg (· + 1) (all_len t)
theorem prs_erase {N : Addr → Prop} {H : Hp} : ∀ {as : List Addr} {ps : List Pr} (i : Nat), PrsAt N H as ps → PrsAt N H (as.eraseIdx i) (ps.eraseIdx i)
  | _, _, _, .nil => .nil
  | _, _, 0, .cons _ t => t
  | _, _, i + 1, .cons h t => .cons h (prs_erase i t)
def PrOk (p : Pr) : Prop := OddOk p.1 ∧ OddOk p.2
theorem odd_non : OddOk .none := ⟨ncb_non.mono (by decide) (by decide), .inr ⟨by simp only [PyData.hasDict], by simp only [PyData.canLay0]⟩⟩
theorem odd_bl (b : Bool) : OddOk (.bool b) := ⟨(ncb_bl b).mono (by decide) (by decide), .inr ⟨by simp only [PyData.hasDict], by simp only [PyData.canLay0]⟩⟩
theorem odd_int {i : Int} (h : i.natAbs < 10 ^ 60) : OddOk (.int i) := ⟨(ncb_int h).mono (by decide) (by decide), .inr ⟨by simp only [PyData.hasDict], by simp only [PyData.canLay0]⟩⟩
theorem odd_str {x : Str} (h : x.cps.size ≤ 20) (hx : (x.cps.toList.all fun c => decide (c < 16 ^ 8)) = true) (h3 : PyData.strOk x = true) : OddOk (.str x) := ⟨(ncb_str h hx).mono (by decide) (by decide), .inr ⟨by simp only [PyData.hasDict], by simp only [PyData.canLay0, h3]⟩⟩
theorem odd_dict : OddOk (.dict []) := ⟨ncb_dict.mono (by decide) (by decide), .inl rfl⟩
theorem odd_tup0 : OddOk (.tuple []) := ⟨(ncb_tup (b := 0) (k := 0) (n := 0) (fun x z => by cases z) (by decide)).mono (by decide) (by decide), .inr ⟨by simp only [PyData.hasDict, PyData.hasDictAll], by simp only [PyData.canLay0, PyData.canLayAll0]⟩⟩
theorem odd_lst0 : OddOk (.list []) := ⟨(ncb_lst (b := 0) (k := 0) (n := 0) (fun x z => by cases z) (by decide)).mono (by decide) (by decide), .inr ⟨by simp only [PyData.hasDict, PyData.hasDictAll], by simp only [PyData.canLay0, PyData.canLayAll0]⟩⟩
theorem odd_tup1 {x : Str} (h : x.cps.size ≤ 20) (hx : (x.cps.toList.all fun c => decide (c < 16 ^ 8)) = true) (h3 : PyData.strOk x = true) : OddOk (.tuple [.str x]) := ⟨(ncb_tup (b := 20) (k := 0) (n := 21) (fun y hy => by rw [List.mem_singleton.mp hy]; exact ncb_str h hx) (by simp)).mono (by decide) (by decide), .inr ⟨by simp only [PyData.hasDict, PyData.hasDictAll, Bool.or_self], by simp only [PyData.canLay0, PyData.canLayAll0, h3, Bool.and_self]⟩⟩
theorem odd_lst1 {x : Str} (h : x.cps.size ≤ 20) (hx : (x.cps.toList.all fun c => decide (c < 16 ^ 8)) = true) (h3 : PyData.strOk x = true) : OddOk (.list [.str x]) := ⟨(ncb_lst (b := 20) (k := 0) (n := 21) (fun y hy => by rw [List.mem_singleton.mp hy]; exact ncb_str h hx) (by simp)).mono (by decide) (by decide), .inr ⟨by simp only [PyData.hasDict, PyData.hasDictAll, Bool.or_self], by simp only [PyData.canLay0, PyData.canLayAll0, h3, Bool.and_self]⟩⟩
/-! ### k56: what is shown tells rows apart -/
def rowStrs : List Str := ["none", "one", "all", "not", "neg", "twice", "and", "or", "xor", "add", "sub", "nop", "row", "1", "2", "3"]
mutual
/-- what may stand within a row that is bent -/
inductive RLk : PyData → Prop
  | non : RLk .none
  | bl (b : Bool) : RLk (.bool b)
  | int (i : Nat) : i < 1000 → RLk (.int (i : Int))
  | str {x : Str} : x ∈ rowStrs → RLk (.str x)
  | tup {ds : List PyData} : RLkAll ds → RLk (.tuple ds)
  | lst {ds : List PyData} : RLkAll ds → RLk (.list ds)
inductive RLkAll : List PyData → Prop
  | nil : RLkAll []
  | cons {d : PyData} {ds : List PyData} : RLk d → RLkAll ds → RLkAll (d :: ds)
end
abbrev shL (d : PyData) : List Nat := TL.tl d.shown
def Dl (r : List Nat) : Prop := ∀ c t, r = c :: t → c = 44 ∨ c = 41
/-- what is shown of it tells it from all others -/
def PI (w : PyData) : Prop := ∀ d r1 r2, RLk d → Dl r1 → Dl r2 → shL d ++ r1 = shL w ++ r2 → d = w ∧ r1 = r2
def kindC : PyData → Nat → Prop
  | .none, c => c = 78
  | .bool _, c => c = 84 ∨ c = 70
  | .int _, c => 48 ≤ c ∧ c ≤ 57
  | .str _, c => c = 39
  | .tuple _, c => c = 40
  | .list _, c => c = 91
  | .dict _, c => c = 123
theorem shL_int (n : Nat) : shL (.int (n : Int)) = TL.numL n := by
  show TL.tl (PyData.shown (.int (n : Int))) = _
  simp only [PyData.shown]
  exact TL.tl_num n
theorem rowStr_sh : ∀ x ∈ rowStrs, TL.tl (reprText x) = 39 :: (TL.tl x ++ [39]) ∧ 39 ∉ TL.tl x := by decide +kernel
theorem shL_str {x : Str} (h : x ∈ rowStrs) : shL (.str x) = 39 :: (TL.tl x ++ [39]) := by
  show TL.tl (PyData.shown (.str x)) = _
  simp only [PyData.shown]
  exact (rowStr_sh x h).1
/-- the text of a tuple's parts, and what follows -/
def tT : List (List Nat) → List Nat → List Nat
  | [], r => 41 :: r
  | t :: ts, r => 44 :: 32 :: (t ++ tT ts r)
def tupL : List (List Nat) → List Nat → List Nat
  | [], r => 40 :: 41 :: r
  | [t], r => 40 :: (t ++ 44 :: 41 :: r)
  | t :: u :: ts, r => 40 :: (t ++ tT (u :: ts) r)
theorem join_tT : ∀ (t : List Nat) (ts : List (List Nat)) (r : List Nat), TL.joinL [44, 32] (t :: ts) ++ 41 :: r = t ++ tT ts r
  | t, [], r => rfl
  | t, u :: ts, r => by
    have := join_tT u ts r
    rw [TL.joinL]
    show _ = t ++ 44 :: 32 :: (u ++ tT ts r)
    rw [← this]
    simp only [List.append_assoc, List.cons_append, List.nil_append]
theorem tl_comma : TL.tl (", " : Str) = [44, 32] := by decide +kernel
theorem tl_open : TL.tl ("(" : Str) = [40] := by decide +kernel
theorem tl_close : TL.tl (Str.ofString ")") = [41] := by decide +kernel
theorem tl_close1 : TL.tl (Str.ofString ",)") = [44, 41] := by decide +kernel
theorem tl_tupleText (ss : List Str) (r : List Nat) : TL.tl (tupleText ss) ++ r = tupL (ss.map TL.tl) r := by
  unfold tupleText
  rw [TL.tl_append, TL.tl_append, TL.tl_join, tl_comma, tl_open]
  match ss with
  | [] =>
    show ([40] ++ [] ++ TL.tl (Str.ofString ")")) ++ r = _
    rw [tl_close]
    rfl
  | [s] =>
    show ([40] ++ TL.tl s ++ TL.tl (Str.ofString ",)")) ++ r = _
    rw [tl_close1]
    show ([40] ++ TL.tl s ++ [44, 41]) ++ r = 40 :: (TL.tl s ++ 44 :: 41 :: r)
    simp only [List.append_assoc, List.cons_append, List.nil_append]
  | s :: u :: ss =>
    have e : ((s :: u :: ss).length == 1) = false := by
      simp
    rw [e]
    show ([40] ++ TL.joinL [44, 32] (TL.tl s :: TL.tl u :: ss.map TL.tl) ++ TL.tl (Str.ofString ")")) ++ r = 40 :: (TL.tl s ++ tT (TL.tl u :: ss.map TL.tl) r)
    rw [tl_close, ← join_tT]
    simp only [List.append_assoc, List.cons_append, List.nil_append]
theorem shownAll_map : ∀ ds : List PyData, PyData.shownAll ds = ds.map PyData.shown
  | [] => by rw [PyData.shownAll]; rfl
  | d :: ds => by rw [PyData.shownAll, shownAll_map ds]; rfl
theorem shL_tup (ds : List PyData) (r : List Nat) : shL (.tuple ds) ++ r = tupL (ds.map shL) r := by
  show TL.tl (PyData.shown (.tuple ds)) ++ r = _
  simp only [PyData.shown]
  rw [tl_tupleText, shownAll_map, List.map_map]
  rfl
theorem shL_tup0 (ds : List PyData) : ∃ t, shL (.tuple ds) = 40 :: t := by
  have := shL_tup ds []
  rw [List.append_nil] at this
  rw [this]
  match ds with
  | [] => exact ⟨_, rfl⟩
  | [d] => exact ⟨_, rfl⟩
  | d :: e :: ds => exact ⟨_, rfl⟩
theorem textFrom_tl : ∀ (ts : List Str) (k : Nat) (acc : Str), ∃ t, TL.tl (textFrom k acc ts) = TL.tl acc ++ t
  | [], k, acc => ⟨[], by rw [List.append_nil]; rfl⟩
  | u :: ts, k, acc => by
    obtain ⟨t, e⟩ := textFrom_tl ts (k + 1) (acc ++ (if k > 0 then ", " else "" : String) ++ u)
    refine ⟨TL.tl ((if k > 0 then ", " else "" : String) : Str) ++ (TL.tl u ++ t), ?_⟩
    show TL.tl (textFrom (k + 1) (acc ++ (if k > 0 then ", " else "" : String) ++ u) ts) = _
    rw [e, TL.tl_append, TL.tl_append, List.append_assoc, List.append_assoc]
theorem shL_lst0 (ds : List PyData) : ∃ t, shL (.list ds) = 91 :: t := by
  show ∃ t, TL.tl (PyData.shown (.list ds)) = _
  simp only [PyData.shown]
  unfold listText
  obtain ⟨t, e⟩ := textFrom_tl (PyData.shownAll ds) 0 "["
  refine ⟨t ++ TL.tl ("]" : Str), ?_⟩
  rw [TL.tl_append, e, show TL.tl ("[" : Str) = [91] by decide +kernel]
  rfl
/-- by its first sign, what kind of thing is shown -/
theorem shL_head {d : PyData} (h : RLk d) : ∃ c t, shL d = c :: t ∧ kindC d c := by
  cases h with
  | non => exact ⟨78, [111, 110, 101], by show TL.tl (PyData.shown .none) = _; simp only [PyData.shown]; decide +kernel, rfl⟩
  | bl b =>
    cases b with
    | true => exact ⟨84, [114, 117, 101], by show TL.tl (PyData.shown (.bool true)) = _; simp only [PyData.shown]; decide +kernel, .inl rfl⟩
    | false => exact ⟨70, [97, 108, 115, 101], by show TL.tl (PyData.shown (.bool false)) = _; simp only [PyData.shown]; decide +kernel, .inr rfl⟩
  | int i hi =>
    rw [shL_int]
    cases e : TL.numL i with
    | nil => exact absurd e (TL.numL_ne i)
    | cons c t => exact ⟨c, t, rfl, TL.numL_digits i c (by rw [e]; exact List.mem_cons_self)⟩
  | str hx => exact ⟨39, _, shL_str hx, rfl⟩
  | tup _ =>
    obtain ⟨t, e⟩ := shL_tup0 _
    exact ⟨40, t, e, rfl⟩
  | lst _ =>
    obtain ⟨t, e⟩ := shL_lst0 _
    exact ⟨91, t, e, rfl⟩
theorem span_eq {p : Nat → Prop} : ∀ {a b r1 r2 : List Nat}, (∀ c ∈ a, p c) → (∀ c ∈ b, p c) → (∀ c t, r1 = c :: t → ¬ p c) → (∀ c t, r2 = c :: t → ¬ p c) → a ++ r1 = b ++ r2 → a = b ∧ r1 = r2
  | [], [], _, _, _, _, _, _, e => ⟨rfl, e⟩
  | [], y :: b, r1, r2, _, hb, h1, _, e => absurd (hb y List.mem_cons_self) (h1 y (b ++ r2) e)
  | x :: a, [], r1, r2, ha, _, _, h2, e => absurd (ha x List.mem_cons_self) (h2 x (a ++ r1) e.symm)
  | x :: a, y :: b, r1, r2, ha, hb, h1, h2, e => by
    obtain ⟨e1, e2⟩ := List.cons.inj e
    obtain ⟨e3, e4⟩ := span_eq (fun c hc => ha c (List.mem_cons_of_mem _ hc)) (fun c hc => hb c (List.mem_cons_of_mem _ hc)) h1 h2 e2
    exact ⟨by rw [e1, e3], e4⟩
theorem heads {d w : PyData} {r1 r2 : List Nat} (hd : RLk d) (hw : RLk w) (e : shL d ++ r1 = shL w ++ r2) : ∃ c, kindC d c ∧ kindC w c := by
  obtain ⟨c, t, e1, k1⟩ := shL_head hd
  obtain ⟨c', t', e2, k2⟩ := shL_head hw
  rw [e1, e2] at e
  have := (List.cons.inj e).1
  exact ⟨c, k1, this ▸ k2⟩
theorem pj_int {n : Nat} (hn : n < 1000) : PI (.int (n : Int)) := fun d r1 r2 hd h1 h2 e => by
  obtain ⟨c, k1, k2⟩ := heads hd (.int n hn) e
  have dig : ∀ {r : List Nat}, Dl r → ∀ c t, r = c :: t → ¬ (48 ≤ c ∧ c ≤ 57) := fun h c t e => by
    have := h c t e
    omega
  cases hd with
  | int i hi =>
    rw [shL_int, shL_int] at e
    obtain ⟨e1, e2⟩ := span_eq (p := fun c => 48 ≤ c ∧ c ≤ 57) (fun c hc => TL.numL_digits i c hc) (fun c hc => TL.numL_digits n c hc) (dig h1) (dig h2) e
    rw [TL.numL_inj e1]
    exact ⟨rfl, e2⟩
  | _ => simp only [kindC] at k1 k2; omega
theorem pj_str {x : Str} (hx : x ∈ rowStrs) : PI (.str x) := fun d r1 r2 hd h1 h2 e => by
  obtain ⟨c, k1, k2⟩ := heads hd (.str hx) e
  cases hd with
  | @str y hy =>
    rw [shL_str hx, shL_str hy] at e
    have e : (TL.tl y ++ [39]) ++ r1 = (TL.tl x ++ [39]) ++ r2 := (List.cons.inj e).2
    rw [List.append_assoc, List.append_assoc] at e
    have no : ∀ {z : Str}, z ∈ rowStrs → ∀ c ∈ TL.tl z, c ≠ 39 := fun hz c hc z => (rowStr_sh _ hz).2 (z ▸ hc)
    obtain ⟨e1, e2⟩ := span_eq (p := fun c => c ≠ 39) (no hy) (no hx) (fun c t e => by cases e; simp) (fun c t e => by cases e; simp) e
    rw [TL.ext_tl e1]
    exact ⟨rfl, (List.cons.inj e2).2⟩
  | _ => simp only [kindC] at k1 k2; omega
theorem dl_tT (ts : List (List Nat)) (r : List Nat) : Dl (tT ts r) := fun c t e => by
  cases ts with
  | nil => exact .inr (List.cons.inj e).1.symm
  | cons u ts => exact .inl (List.cons.inj e).1.symm
theorem dl_44 (r : List Nat) : Dl (44 :: r) := fun c t e => .inl (List.cons.inj e).1.symm
theorem pj_all : ∀ {ws ds : List PyData} {r1 r2 : List Nat}, (∀ x ∈ ws, PI x) → RLkAll ds → tT (ds.map shL) r1 = tT (ws.map shL) r2 → ds = ws ∧ r1 = r2
  | [], [], _, _, _, _, e => ⟨rfl, (List.cons.inj e).2⟩
  | [], d :: ds, _, _, _, _, e => by
    have := (List.cons.inj e).1
    omega
  | u :: ws, [], _, _, _, _, e => by
    have := (List.cons.inj e).1
    omega
  | u :: ws, d :: ds, r1, r2, h, .cons hd hds, e => by
    have e := (List.cons.inj (List.cons.inj e).2).2
    obtain ⟨e1, e2⟩ := h u List.mem_cons_self d _ _ hd (dl_tT _ _) (dl_tT _ _) e
    obtain ⟨e3, e4⟩ := pj_all (fun x hx => h x (List.mem_cons_of_mem _ hx)) hds e2
    exact ⟨by rw [e1, e3], e4⟩
theorem not41 {d : PyData} {r s : List Nat} (hd : RLk d) (e : shL d ++ r = 41 :: s) : False := by
  obtain ⟨c, t, e1, k1⟩ := shL_head hd
  rw [e1] at e
  have := (List.cons.inj e).1
  subst this
  cases d <;> simp only [kindC] at k1 <;> omega
theorem pj_tup {ws : List PyData} (h : ∀ x ∈ ws, PI x) (hw : RLkAll ws) : PI (.tuple ws) := fun d r1 r2 hd h1 h2 e => by
  obtain ⟨c, k1, k2⟩ := heads hd (.tup hw) e
  cases hd with
  | @tup ds hds =>
    rw [shL_tup, shL_tup] at e
    match ws, ds, h, hw, hds, e with
    | [], [], _, _, _, e => exact ⟨rfl, (List.cons.inj (List.cons.inj e).2).2⟩
    | [], [d], _, _, .cons hd _, e => exact (not41 hd (List.cons.inj e).2).elim
    | [], d :: _ :: _, _, _, .cons hd _, e => exact (not41 hd (List.cons.inj e).2).elim
    | [u], [], _, .cons hu _, _, e => exact (not41 hu (List.cons.inj e).2.symm).elim
    | u :: _ :: _, [], _, .cons hu _, _, e => exact (not41 hu (List.cons.inj e).2.symm).elim
    | [u], [d], h, _, .cons hd _, e =>
      obtain ⟨e1, e2⟩ := h u List.mem_cons_self d _ _ hd (dl_44 _) (dl_44 _) (List.cons.inj e).2
      exact ⟨by rw [e1], (List.cons.inj (List.cons.inj e2).2).2⟩
    | [u], d :: d2 :: ds, h, _, .cons hd _, e =>
      obtain ⟨e1, e2⟩ := h u List.mem_cons_self d _ _ hd (dl_tT _ _) (dl_44 _) (List.cons.inj e).2
      have := (List.cons.inj (List.cons.inj e2).2).1
      omega
    | u :: u2 :: ws, [d], h, _, .cons hd _, e =>
      obtain ⟨e1, e2⟩ := h u List.mem_cons_self d _ _ hd (dl_44 _) (dl_tT _ _) (List.cons.inj e).2
      have := (List.cons.inj (List.cons.inj e2).2).1
      omega
    | u :: u2 :: ws, d :: d2 :: ds, h, _, .cons hd hds, e =>
      obtain ⟨e1, e2⟩ := h u List.mem_cons_self d _ _ hd (dl_tT _ _) (dl_tT _ _) (List.cons.inj e).2
      obtain ⟨e3, e4⟩ := pj_all (fun x hx => h x (List.mem_cons_of_mem _ hx)) hds e2
      exact ⟨by rw [e1, e3], e4⟩
  | _ => simp only [kindC] at k1 k2; omega
theorem rlk_map {α : Type} {f : α → PyData} : ∀ {l : List α}, (∀ x ∈ l, RLk (f x)) → RLkAll (l.map f)
  | [], _ => .nil
  | x :: l, h => .cons (h x List.mem_cons_self) (rlk_map fun y hy => h y (List.mem_cons_of_mem _ hy))
theorem fw_rowStrs : ∀ p ∈ fwL, p.1 ∈ rowStrs := by decide +kernel
theorem rlk_int {i : Int} (h0 : 0 ≤ i) (h1 : i < 1000) : RLk (.int i) ∧ PI (.int i) := by
  obtain ⟨n, rfl⟩ := Int.eq_ofNat_of_zero_le h0
  exact ⟨.int n (by omega), pj_int (by omega)⟩
theorem rlk_deed {M : Int} {d : Deed} (h : DeedOk M d) (hM : M ≤ 100) : RLk (deedD d) ∧ PI (deedD d) := by
  have a : ∀ i ∈ d.2, RLk (.int i) ∧ PI (.int i) := fun i hi => by
    obtain ⟨h0, h1⟩ := h.ahead i hi
    exact rlk_int h0 (by omega)
  have s := fw_rowStrs _ h.word
  have r : RLkAll (.str d.1 :: d.2.map PyData.int) := .cons (.str s) (rlk_map fun i hi => (a i hi).1)
  refine ⟨.tup r, pj_tup (fun x hx => ?_) r⟩
  rcases List.mem_cons.mp hx with rfl | hx
  · exact pj_str s
  · obtain ⟨i, hi, rfl⟩ := List.mem_map.mp hx
    exact (a i hi).2
theorem rlk_deeds {m : Nat} {ds : List Deed} {o : Int} (ok : RowOk m ds o) : RLk (.tuple (ds.map deedD)) ∧ PI (.tuple (ds.map deedD)) := by
  have l8 := ok.len
  have m3 := ok.m3
  have a : ∀ d ∈ ds, RLk (deedD d) ∧ PI (deedD d) := fun d hd => rlk_deed (deeds_in ok.deeds d hd) (by omega)
  have r : RLkAll (ds.map deedD) := rlk_map fun d hd => (a d hd).1
  refine ⟨.tup r, pj_tup (fun x hx => ?_) r⟩
  obtain ⟨d, hd, rfl⟩ := List.mem_map.mp hx
  exact (a d hd).2
theorem rlk_row {m : Nat} {ds : List Deed} {o : Int} (ok : RowOk m ds o) : RLk (rowD m ds o) ∧ PI (rowD m ds o) := by
  have l8 := ok.len
  have m3 := ok.m3
  have o0 := ok.o0
  have o1 := ok.o1
  have a := rlk_int (i := (m : Int)) (by omega) (by omega)
  have b := rlk_deeds ok
  have c := rlk_int (i := o) o0 (by omega)
  have r : RLkAll [.int (m : Int), .tuple (ds.map deedD), .int o] := .cons a.1 (.cons b.1 (.cons c.1 .nil))
  refine ⟨.tup r, pj_tup (fun x hx => ?_) r⟩
  simp only [List.mem_cons, List.not_mem_nil, or_false] at hx
  rcases hx with rfl | rfl | rfl
  · exact a.2
  · exact b.2
  · exact c.2
/-- a thing that may be asked as a row -/
structure RowLk (c : PyData) : Prop where
  nice : NcB 300 6 c
  kind : c = .dict [] ∨ RLk c
theorem shown_row {m : Nat} {ds : List Deed} {o : Int} {c : PyData} (ok : RowOk m ds o) (h : RowLk c) (e : c.shown = (rowD m ds o).shown) : c = rowD m ds o := by
  rcases h.kind with rfl | hr
  · exfalso
    obtain ⟨t, e1⟩ := shL_tup0 [.int (m : Int), .tuple (ds.map deedD), .int o]
    have e2 : shL (.dict []) = [123, 125] := by show TL.tl (PyData.shown (.dict [])) = _; simp only [PyData.shown, PyData.shownKv]; decide +kernel
    have e3 : shL (.dict []) = shL (.tuple [.int (m : Int), .tuple (ds.map deedD), .int o]) := congrArg TL.tl e
    rw [e1, e2] at e3
    have := (List.cons.inj e3).1
    omega
  · refine ((rlk_row ok).2 c [] [] hr (fun c t z => by cases z) (fun c t z => by cases z) ?_).1
    show TL.tl c.shown ++ [] = TL.tl (rowD m ds o).shown ++ []
    rw [e]
mutual
theorem rlk_lay : ∀ {d : PyData}, RLk d → d.canLay0 = true ∧ d.hasDict = false
  | _, .non => ⟨by simp only [PyData.canLay0], by simp only [PyData.hasDict]⟩
  | _, .bl b => ⟨by simp only [PyData.canLay0], by simp only [PyData.hasDict]⟩
  | _, .int i _ => ⟨by simp only [PyData.canLay0], by simp only [PyData.hasDict]⟩
  | _, .str h => ⟨by simp only [PyData.canLay0]; exact (show ∀ x ∈ rowStrs, PyData.strOk x = true by decide +kernel) _ h, by simp only [PyData.hasDict]⟩
  | _, .tup h => by
    have := rlk_layAll h
    exact ⟨by simpa only [PyData.canLay0] using this.1, by simpa only [PyData.hasDict] using this.2⟩
  | _, .lst h => by
    have := rlk_layAll h
    exact ⟨by simpa only [PyData.canLay0] using this.1, by simpa only [PyData.hasDict] using this.2⟩
theorem rlk_layAll : ∀ {ds : List PyData}, RLkAll ds → PyData.canLayAll0 ds = true ∧ PyData.hasDictAll ds = false
  | _, .nil => ⟨by simp only [PyData.canLayAll0], by simp only [PyData.hasDictAll]⟩
  | _, .cons h t => by
    have a := rlk_lay h
    have b := rlk_layAll t
    exact ⟨by simp only [PyData.canLayAll0, a.1, b.1, Bool.and_self], by simp only [PyData.hasDictAll, a.2, b.2, Bool.or_self]⟩
end
/-! ### k56: is_the_very, is_step, is_chain of anything -/
abbrev noN : Addr → Prop := fun _ => False
theorem any_ints0 {H : Hp} : ∀ l : List Int, AnyAll noN H (l.map V.int) (l.map PyData.int)
  | [] => .nil
  | x :: l => .cons (.int x) (any_ints0 l)
theorem any_deeds0 {H : Hp} : ∀ {rs : List Addr} {ds : List Deed}, DsAt H rs ds → AnyAll noN H (rs.map V.ref) (ds.map deedD)
  | _, _, .nil => .nil
  | _, _, .cons h t => .cons (.tup (fun z => z) h (.cons (.str _) (any_ints0 _))) (any_deeds0 t)
theorem any_row {H : Hp} {R : Addr} {m o : Int} {ds : List Deed} (h : RowAt H R m ds o) : AnyAt noN H (.ref R) (rowD m ds o) := by
  obtain ⟨D, rs, e1, e2, e3⟩ := h
  exact .tup (fun z => z) e1 (.cons (.int m) (.cons (.tup (fun z => z) e2 (any_deeds0 e3)) (.cons (.int o) .nil)))
theorem row_ints {N : Addr → Prop} {H : Hp} : ∀ {vs : List V} {l : List Int}, AnyAll N H vs (l.map PyData.int) → vs = l.map V.int
  | _, [], .nil => rfl
  | _, x :: l, .cons h t => by rw [any_int h, row_ints t]; rfl
theorem row_deeds {N : Addr → Prop} {H : Hp} : ∀ {vs : List V} {ds : List Deed}, AnyAll N H vs (ds.map deedD) → ∃ rs : List Addr, vs = rs.map V.ref ∧ DsAt H rs ds
  | _, [], .nil => ⟨[], rfl, .nil⟩
  | _, d :: ds, .cons h t => by
    obtain ⟨rs, e, hr⟩ := row_deeds t
    cases h with
    | @tup a xs _ _ e1 h1 =>
      cases h1 with
      | cons hw hi =>
        obtain rfl := any_str hw
        obtain rfl := row_ints hi
        exact ⟨a :: rs, by rw [e]; rfl, .cons e1 hr⟩
theorem row_any {N : Addr → Prop} {H : Hp} {x : V} {m o : Int} {ds : List Deed} (h : AnyAt N H x (rowD m ds o)) : ∃ R, x = .ref R ∧ RowAt H R m ds o := by
  cases h with
  | @tup a xs _ _ e1 h1 =>
    cases h1 with
    | cons hm h2 =>
      cases h2 with
      | cons hd h3 =>
        cases h3 with
        | cons ho h4 =>
          cases h4
          obtain rfl := any_int hm
          obtain rfl := any_int ho
          cases hd with
          | @tup D ys _ _ e2 h5 =>
            obtain ⟨rs, rfl, hr⟩ := row_deeds h5
            exact ⟨a, rfl, D, rs, e1, e2, hr⟩
/-- what is wanted: whole numbers, texts, tuples of them -/
def WantL : Nat → PyData → Prop
  | 0, _ => False
  | j + 1, d => (∃ i, d = .int i) ∨ (∃ t, d = .str t ∧ PyData.strOk t = true) ∨ ∃ ds, d = .tuple ds ∧ ds.length ≤ 900 ∧ ∀ x ∈ ds, WantL j x
def ThingOk (d w : PyData) : Prop := (d = .dict [] ∧ ∃ ws, w = .tuple ws) ∨ (d.hasDict = false ∧ d.canLay0 = true ∧ d.depth ≤ 60)
def spTvA (j : Nat) : Sp := fun vs H Q _ => ∃ (N N' : Addr → Prop) (x y : V) (d u : PyData), vs = [x, y] ∧ AnyAt N H x d ∧ AnyAt N' H y u ∧ WantL j u ∧ ThingOk d u ∧ ∀ H' b, (b = true ↔ d = u) → Same H H' → Q (.bl b) H'
theorem eqv_int_yes {d : PyData} {i : Int} : (PyData.eqv d (.int i) = true ∧ isInt d = true) ↔ d = .int i := by
  constructor
  · rintro ⟨h1, h2⟩
    cases d with
    | int v => simp [PyData.eqv] at h1; rw [h1]
    | _ => simp [isInt] at h2
  · rintro rfl
    exact ⟨by simp [PyData.eqv], rfl⟩
theorem eqv_str_yes {d : PyData} {t : Str} : PyData.eqv d (.str t) = true ↔ d = .str t := by
  constructor
  · intro h1
    cases d with
    | str v => simp [PyData.eqv] at h1; rw [h1]
    | _ => simp [PyData.eqv] at h1
  · rintro rfl
    simp [PyData.eqv]
theorem thing_in {ds : List PyData} {w : PyData} (h : ThingOk (.tuple ds) w) : ∀ x ∈ ds, ∀ u, ThingOk x u := fun x hx u => by
  rcases h with ⟨h, _⟩ | ⟨h1, h2, h3⟩
  · cases h
  · simp only [PyData.hasDict] at h1
    simp only [PyData.canLay0] at h2
    simp only [PyData.depth] at h3
    have key : ∀ {ds : List PyData}, PyData.hasDictAll ds = false → PyData.canLayAll0 ds = true → PyData.depthAll ds + 1 ≤ 60 → ∀ x ∈ ds, x.hasDict = false ∧ x.canLay0 = true ∧ x.depth ≤ 60 := by
      intro ds
      induction ds with
      | nil => intro _ _ _ x hx; cases hx
      | cons d ds ih =>
        intro h1 h2 h3 x hx
        simp only [PyData.hasDictAll, Bool.or_eq_false_iff] at h1
        simp only [PyData.canLayAll0, Bool.and_eq_true] at h2
        simp only [PyData.depthAll] at h3
        rcases List.mem_cons.mp hx with rfl | hx
        · exact ⟨h1.1, h2.1, by omega⟩
        · exact ih h1.2 h2.2 (by omega) x hx
    exact .inr (key h1 h2 (by omega) x hx)
theorem shp {d : PyData} (h : d.canLay0 = true) (h2 : d.depth ≤ 60) : SeqAt.shaped d = true := by
  unfold SeqAt.shaped
  rw [h, Bool.true_and]
  exact decide_eq_true (by omega)
theorem all_snoc (bs : List Bool) (b : Bool) : (bs ++ [b]).all id = (bs.all id && b) := by
  rw [List.all_append]
  simp
set_option maxHeartbeats 4000000 in
theorem tva_step {f fW : Addr} {fd fdW : FuncData} {k : Nat} (j : Nat) (F : Fun K "is_the_very" "is_the_very" s_is_the_very f fd)
    (GW : FnOk P w K mg base CX0 (k + 1) fW fdW ["thing"] spWhA) (kW : PySem.W.keepIn K (.ref fW) = true) (bW : Binds K fdW ["thing"] []) (gW : mg "is_whole" = some (.ref fW))
    (GR : FnOk P w K mg base CX0 (k + 1 + j) f fd ["thing", "wanted"] (spTvA j)) (kR : PySem.W.keepIn K (.ref f) = true) (bR : Binds K fd ["thing", "wanted"] []) (gR : mg "is_the_very" = some (.ref f))
    (mi : mg "isinstance" = none) (mt : mg "tuple" = none) (mS : mg "str" = none) (mn : mg "len" = none) (mz : mg "zip" = none) (mL : mg "all" = none) : FnOk P w K mg base CX0 (k + 1 + (j + 1)) f fd ["thing", "wanted"] (spTvA (j + 1)) := by
  refine F.ok sc_is_the_very (fun vs H Q E h => ?_) (fun cdv A outer s H vs Q E hr h => ?_)
  · obtain ⟨N, N', x, y, d, u, rfl, _⟩ := h
    rfl
  · obtain ⟨N, N', x, y, d, u, rfl, hx, hy, hu, ht, q⟩ := h
    have r1 := hr.mono (show k + 1 ≤ k + 1 + j by omega)
    refine ⟨_, pss_cons (ps_if (pt_val (pe_callB call_isi (by rfl) mi (by decide +kernel) (pa_cons (pv 1) (pa_cons (pe_bltn (v := .ty "tuple") (by rfl) mt (by decide +kernel) rfl) pa_nil))))
        (pss_cons (ps_if (PW.pt (pw_or (pt_not (pt_val (pe_callB call_isi (by rfl) mi (by decide +kernel) (pa_cons (pv 0) (pa_cons (pe_bltn (v := .ty "tuple") (by rfl) mt (by decide +kernel) rfl) pa_nil))))) (pw_or1 (pt_cmpR op_ne (pe_callB call_len_seq (by rfl) mn PySem.boot_len (pa_cons (pv 0) pa_nil)) (pe_callB call_len_seq (by rfl) mn PySem.boot_len (pa_cons (pv 1) pa_nil)) (nomark _))))) (pss_one (ps_ret pe_bl)) pss_nil)
        (pss_one (ps_ret (pe_callB (cr_all rfl) (by rfl) mL (by decide +kernel) (pa_cons (pe_lc (own := [("part", 2), ("wanted_part", 3)]) (g := gTup K 2 (gCons (gName 2) (gCons (gName 3) gNil))) (by rfl) sc_is_the_very.nd (RZ.pi_zipA (by rfl) mz (pa_cons (pv 0) (pa_cons (pv 1) pa_nil))) (blkOk_by (own := [("part", 2), ("wanted_part", 3)]) (N := N_is_the_very) (sc := defScope s_is_the_very) (by decide +kernel))
          (fun _ _ _ _ _ => pg_tup rfl (pgs_cons (pg_name (i := 2) sc_is_the_very.nd rfl (.inl rfl)) (pgs_cons (pg_name (i := 3) sc_is_the_very.nd rfl (.inl rfl)) pgs_nil))) (fun _ _ _ _ _ => pts_nil) (fun _ _ _ _ _ => pe_call GR hr (by rfl) gR kR bR .nil pass0 (pa_cons (pv 2) (pa_cons (pv 3) pa_nil)))) pa_nil)))))
        pss_nil)
      (pss_one (ps_ret (pe_and (pe_cmpR (op_eqD hr.units) (pv 0) (pv 1) (nomark _)) (pe_one (pe_or (pe_callB call_isi (by rfl) mi (by decide +kernel) (pa_cons (pv 1) (pa_cons (pe_bltn (v := .ty "str") (by rfl) mS (by decide +kernel) rfl) pa_nil))) (pe_one (pe_call GW r1 (by rfl) gW kW bW .nil pass0 (pa_cons (pv 0) pa_nil)))))))), ?_⟩
    have plain : ∀ {u : PyData}, ThingOk d u → (∀ ws, u ≠ .tuple ws) → d.hasDict = false ∧ SeqAt.shaped d = true := fun h n => by
      rcases h with ⟨_, ws, e⟩ | ⟨h1, h2, h3⟩
      · exact absurd e (n ws)
      · exact ⟨h1, shp h2 h3⟩
    rcases hu with ⟨i, rfl⟩ | ⟨t, rfl, ht2⟩ | ⟨us, rfl, ul, hus⟩
    · obtain rfl := any_int hy
      obtain ⟨nd, sd⟩ := plain ht (fun ws z => by cases z)
      refine ⟨.int i, rfl, .int i, .ty "tuple", .type "int", .type "tuple", false, rfl, .ty "tuple", .base (.int i), kit_ty (by decide +kernel), false, rfl, iteF ?_⟩
      refine ⟨x, rfl, .int i, rfl, d, .int i, dp_any hx nd, .int i, sd, shp (by simp only [PyData.canLay0]) (by simp only [PyData.depth]; decide), _, rfl, ite2 (fun e => ?_) (fun e => ?_)⟩
      · refine ⟨.int i, rfl, .int i, .ty "str", .type "int", .type "str", false, rfl, .ty "str", .base (.int i), kit_ty (by decide +kernel), false, rfl, iteF ?_⟩
        refine ⟨x, rfl, N, x, d, rfl, hx, q H _ ?_ (Same.refl H)⟩
        have := eqv_int_yes (d := d) (i := i)
        constructor
        · exact fun h => this.mp ⟨e, h⟩
        · exact fun h => (this.mpr h).2
      · exact q H false ⟨fun h => Bool.noConfusion h, fun h => absurd (eqv_int_yes.mpr h).1 e⟩ (Same.refl H)
    · obtain rfl := any_str hy
      obtain ⟨nd, sd⟩ := plain ht (fun ws z => by cases z)
      refine ⟨.str t, rfl, .str t, .ty "tuple", .type "str", .type "tuple", false, rfl, .ty "tuple", .base (.str t), kit_ty (by decide +kernel), false, rfl, iteF ?_⟩
      refine ⟨x, rfl, .str t, rfl, d, .str t, dp_any hx nd, .str t, sd, shp (by simp only [PyData.canLay0, ht2]) (by simp only [PyData.depth]; decide), _, rfl, ite2 (fun e => ?_) (fun e => ?_)⟩
      · exact ⟨.str t, rfl, .str t, .ty "str", .type "str", .type "str", true, rfl, .ty "str", .base (.str t), kit_ty (by decide +kernel), true, rfl, iteT (q H true ⟨fun _ => eqv_str_yes.mp e, fun _ => rfl⟩ (Same.refl H))⟩
      · exact q H false ⟨fun h => Bool.noConfusion h, fun h => absurd (eqv_str_yes.mpr h) e⟩ (Same.refl H)
    · cases hy with
      | @tup b ys _ _ eb hys =>
        refine ⟨.ref b, rfl, .ref b, .ty "tuple", .type "tuple", .type "tuple", true, rfl, .ty "tuple", .base (.tup eb), kit_ty (by decide +kernel), true, rfl, iteT ?_⟩
        have noT : (∀ ds, d ≠ .tuple ds) → ∀ {r : Prop}, (tyD d = .type "tuple" → r) → True := fun _ _ _ => trivial
        have ty := ty_any (K := K) hx
        have no : ∀ {H'}, (∀ ds, d ≠ .tuple ds) → Same H H' → Q (.bl false) H' := fun n s => q _ false ⟨fun z => Bool.noConfusion z, fun z => absurd z (n us)⟩ s
        cases d with
        | none => exact ⟨x, rfl, x, .ty "tuple", .type "NoneType", .type "tuple", false, rfl, .ty "tuple", ty, kit_ty (by decide +kernel), false, rfl, iteT (no (fun ds z => by cases z) (Same.refl H))⟩
        | bool b => exact ⟨x, rfl, x, .ty "tuple", .type "bool", .type "tuple", false, rfl, .ty "tuple", ty, kit_ty (by decide +kernel), false, rfl, iteT (no (fun ds z => by cases z) (Same.refl H))⟩
        | int b => exact ⟨x, rfl, x, .ty "tuple", .type "int", .type "tuple", false, rfl, .ty "tuple", ty, kit_ty (by decide +kernel), false, rfl, iteT (no (fun ds z => by cases z) (Same.refl H))⟩
        | str b => exact ⟨x, rfl, x, .ty "tuple", .type "str", .type "tuple", false, rfl, .ty "tuple", ty, kit_ty (by decide +kernel), false, rfl, iteT (no (fun ds z => by cases z) (Same.refl H))⟩
        | list b => exact ⟨x, rfl, x, .ty "tuple", .type "list", .type "tuple", false, rfl, .ty "tuple", ty, kit_ty (by decide +kernel), false, rfl, iteT (no (fun ds z => by cases z) (Same.refl H))⟩
        | dict b => exact ⟨x, rfl, x, .ty "tuple", .type "dict", .type "tuple", false, rfl, .ty "tuple", ty, kit_ty (by decide +kernel), false, rfl, iteT (no (fun ds z => by cases z) (Same.refl H))⟩
        | tuple ds =>
          cases hx with
          | @tup a xs _ _ ea hxs =>
            have lx := all_len hxs
            have ly := all_len hys
            refine ⟨.ref a, rfl, .ref a, .ty "tuple", .type "tuple", .type "tuple", true, rfl, .ty "tuple", .base (.tup ea), kit_ty (by decide +kernel), true, rfl, iteF ?_⟩
            refine ⟨.ref a, rfl, a, _, rfl, .inr (SqT.of ea), .ref b, rfl, b, _, rfl, .inr (SqT.of eb), rfl, _, rfl, ite2 (fun e => ?_) (fun e => ?_)⟩
            · refine q H false ⟨fun z => Bool.noConfusion z, fun z => ?_⟩ (Same.refl H)
              exfalso
              cases z
              rw [lx, ly] at e
              simp at e
            have hl : xs.length = ys.length := by
              have e : (xs.length : Int) = (ys.length : Int) := by simpa using e
              omega
            refine ⟨.ref a, rfl, .ref b, rfl, a, b, _, _, rfl, .inr ⟨SqT.of ea, SqT.of eb, fun M hM => ?_⟩⟩
            refine lc_it (walk_zipT (K := K) (a := a) (b := b) (xs := xs) (ys := ys) hl) (fun i H5 => ∃ bs : List Bool, H5 M = some (.lst (bs.map V.bl)) ∧ bs.length = i ∧ (bs.all id = true ↔ ds.take i = us.take i) ∧ Same H H5) ⟨[], upd_same, rfl, by simp, same_new hM⟩ (fun i H5 _ hp => ?_) (fun i v H5 H6 hi hp' hy => ?_) (fun H5 hp' => ?_)
            · obtain ⟨bs, e1, e2, e3, s5⟩ := hp
              exact ⟨SqT.of (s5 _ _ ea), SqT.of (s5 _ _ eb)⟩
            · obtain ⟨bs, eM, bl, hbs, s5⟩ := hp'
              obtain ⟨U, x1, x2, rfl, hU, rfl, g1, g2⟩ := hy
              obtain ⟨d1, hd1, hx1⟩ := all_get hxs g1
              obtain ⟨u1, hu1, hx2⟩ := all_get hys g2
              have sU := same_new (o := .tup [x1, x2]) hU
              refine ⟨U, [x1, x2], rfl, .inl (.inl upd_same), rfl, x1, [x2], rfl, x2, [], rfl, rfl, rfl, ?_⟩
              refine ⟨x1, rfl, x2, rfl, N, N', x1, x2, d1, u1, rfl, any_same (s5.trans sU) hx1, any_same (s5.trans sU) hx2, hus u1 (List.mem_of_getElem? hu1), thing_in ht d1 (List.mem_of_getElem? hd1) u1, fun H7 b1 hb1 s7 => ⟨_, s7 _ _ (sU _ _ eM), ?_, bs ++ [b1], ?_, ?_, ?_, fun c u e => ?_⟩⟩
              · rw [List.length_map]
                exact small1000 (by omega)
              · rw [upd_same, List.map_append]
                rfl
              · rw [List.length_append, bl]
                rfl
              · rw [all_snoc, Bool.and_eq_true, hbs, hb1, List.take_add_one, List.take_add_one, hd1, hu1]
                constructor
                · rintro ⟨h1, rfl⟩
                  rw [h1]
                · intro h
                  have hl : (ds.take i).length = (us.take i).length := by
                    rw [List.length_take, List.length_take, ← lx, ← ly, hl]
                  obtain ⟨h1, h2⟩ := List.append_inj h hl
                  simp only [Option.toList_some, List.cons.injEq, and_true] at h2
                  exact ⟨h1, h2⟩
              · rw [upd_ne (ne_of_none e hM)]
                exact s7 _ _ (sU _ _ (s5 _ _ e))
            · obtain ⟨bs, eM, bl, hbs, s5⟩ := hp'
              refine ⟨M, bs, rfl, .inl (.inl eM), q H5 _ ?_ s5⟩
              rw [hbs, List.take_of_length_le (by omega), List.take_of_length_le (by omega)]
              constructor
              · exact fun h => by rw [h]
              · exact fun h => by cases h; rfl
theorem ok_tvA {f fW : Addr} {fd fdW : FuncData} {k : Nat} (F : Fun K "is_the_very" "is_the_very" s_is_the_very f fd)
    (GW : FnOk P w K mg base CX0 (k + 1) fW fdW ["thing"] spWhA) (kW : PySem.W.keepIn K (.ref fW) = true) (bW : Binds K fdW ["thing"] []) (gW : mg "is_whole" = some (.ref fW))
    (kR : PySem.W.keepIn K (.ref f) = true) (bR : Binds K fd ["thing", "wanted"] []) (gR : mg "is_the_very" = some (.ref f))
    (mi : mg "isinstance" = none) (mt : mg "tuple" = none) (mS : mg "str" = none) (mn : mg "len" = none) (mz : mg "zip" = none) (mL : mg "all" = none) : ∀ j, FnOk P w K mg base CX0 (k + 1 + j) f fd ["thing", "wanted"] (spTvA j)
  | 0 => by
    refine F.ok sc_is_the_very (fun vs H Q E h => ?_) (fun cdv A outer s H vs Q E hr h => ?_)
    · obtain ⟨N, N', x, y, d, u, rfl, _⟩ := h
      rfl
    · obtain ⟨N, N', x, y, d, u, rfl, _, _, hu, _⟩ := h
      exact hu.elim
  | j + 1 => tva_step j F GW kW bW gW (ok_tvA F GW kW bW gW kR bR gR mi mt mS mn mz mL j) kR bR gR mi mt mS mn mz mL
theorem want_row {m o : Int} {ds : List Deed} (ok : RowOk m ds o) : WantL 4 (rowD m ds o) := by
  have l8 := ok.len
  refine .inr (.inr ⟨_, rfl, by simp only [List.length_cons, List.length_nil]; decide, fun x hx => ?_⟩)
  simp only [List.mem_cons, List.not_mem_nil, or_false] at hx
  rcases hx with rfl | rfl | rfl
  · exact .inl ⟨_, rfl⟩
  · refine .inr (.inr ⟨_, rfl, by rw [List.length_map]; omega, fun x hx => ?_⟩)
    obtain ⟨d, hd, rfl⟩ := List.mem_map.mp hx
    obtain ⟨i, hi⟩ := List.mem_iff_getElem?.mp hd
    have dk := ok.deeds.each i d hi
    have := fw_len dk
    refine .inr (.inr ⟨_, rfl, by rw [List.length_cons, List.length_map]; omega, fun x hx => ?_⟩)
    rcases List.mem_cons.mp hx with rfl | hx
    · exact .inr (.inl ⟨_, rfl, (show ∀ p ∈ fwL, PyData.strOk p.1 = true by decide +kernel) _ dk.word⟩)
    · obtain ⟨i, hi, rfl⟩ := List.mem_map.mp hx
      exact .inl ⟨_, rfl⟩
  · exact .inl ⟨_, rfl⟩
/-! steps and chains as data -/
noncomputable def stepD (m : Nat) (ds : List Deed) (o : Int) (e : Str × Int) : PyData := .tuple [.str e.1, .int e.2, rowD m (putD m ds e) (putO m ds o e)]
inductive ChnL (m : Nat) : List Deed → Int → List PyData → Prop
  | nil {ds : List Deed} {o : Int} : ChnL m ds o []
  | cons {ds : List Deed} {o : Int} {e : Str × Int} {l : List PyData} : e ∈ fitL m ds o → ChnL m (putD m ds e) (putO m ds o e) l → ChnL m ds o (stepD m ds o e :: l)
def ChnD (m : Nat) (ds : List Deed) (o : Int) (d : PyData) : Prop := ∃ l, d = .list l ∧ ChnL m ds o l
def StepLk (d : PyData) : Prop := ∀ a b c, d = .tuple [a, b, c] → OddOk a ∧ RowLk c
def ChLk (d : PyData) : Prop := ∀ l, d = .list l → ∀ s ∈ l, StepLk s
theorem RowLk.thing {c : PyData} (h : RowLk c) (ws : List PyData) : ThingOk c (.tuple ws) := by
  rcases h.kind with rfl | hr
  · exact .inl ⟨rfl, _, rfl⟩
  · exact .inr ⟨(rlk_lay hr).2, (rlk_lay hr).1, Nat.le_trans h.nice.dp (by decide)⟩
theorem step_inj {m : Nat} {ds : List Deed} {o : Int} {e : Str × Int} {a b c : PyData} (h : (.tuple [a, b, c] : PyData) = stepD m ds o e) : a = .str e.1 ∧ b = .int e.2 ∧ c = rowD m (putD m ds e) (putO m ds o e) := by
  unfold stepD at h
  simp only [PyData.tuple.injEq, List.cons.injEq, and_true] at h
  exact h
theorem chn_cut {m : Nat} {ds : List Deed} {o : Int} {d : PyData} {l : List PyData} (h : ChnL m ds o (d :: l)) : ∃ e ∈ fitL m ds o, d = stepD m ds o e ∧ ChnL m (putD m ds e) (putO m ds o e) l := by
  cases h with
  | cons he hl => exact ⟨_, he, rfl, hl⟩
theorem step_one {m : Nat} {ds : List Deed} {o : Int} {e e' : Str × Int} (h : stepD m ds o e = stepD m ds o e') : e = e' := by
  obtain ⟨h1, h2, _⟩ := step_inj h
  simp only [PyData.str.injEq] at h1
  simp only [PyData.int.injEq] at h2
  exact Prod.ext h1 h2
def spIsA : Sp := fun vs H Q _ => ∃ (R : Addr) (m : Nat) (o : Int) (ds : List Deed) (N : Addr → Prop) (x : V) (d : PyData), vs = [.ref R, x] ∧ RowAt H R m ds o ∧ RowOk m ds o ∧ AnyAt N H x d ∧ StepLk d ∧ ∀ H' b, (b = true ↔ ∃ e ∈ fitL m ds o, d = stepD m ds o e) → Same H H' → Q (.bl b) H'
set_option maxHeartbeats 4000000 in
theorem ok_isA {f fF fV fP : Addr} {fd fdF fdV fdP : FuncData} {k : Nat} (F : Fun K "is_step" "is_step" s_is_step f fd)
    (GF : FnOk P w K mg base CX0 (k + 8) fF fdF ["row", "rule", "value"] spIfA) (kF : PySem.W.keepIn K (.ref fF) = true) (bF : Binds K fdF ["row", "rule", "value"] []) (gF : mg "is_fitting" = some (.ref fF))
    (GV : FnOk P w K mg base CX0 (k + 1 + 4) fV fdV ["thing", "wanted"] (spTvA 4)) (kV : PySem.W.keepIn K (.ref fV) = true) (bV : Binds K fdV ["thing", "wanted"] []) (gV : mg "is_the_very" = some (.ref fV))
    (GP : FnOk P w K mg base CX0 (k + 8) fP fdP ["row", "rule", "value"] spPb) (kP : PySem.W.keepIn K (.ref fP) = true) (bP : Binds K fdP ["row", "rule", "value"] []) (gP : mg "put_by" = some (.ref fP))
    (mi : mg "isinstance" = none) (mt : mg "tuple" = none) (mn : mg "len" = none) : FnOk P w K mg base CX0 (k + 9) f fd ["row", "thing"] spIsA := by
  refine F.ok sc_is_step (fun vs H Q E h => ?_) (fun cdv A outer s H vs Q E hr h => ?_)
  · obtain ⟨R, m, o, ds, N, x, d, rfl, _⟩ := h
    rfl
  · obtain ⟨R, m, o, ds, N, x, d, rfl, hrow, ok, hx, lk, q⟩ := h
    have r5 := hr.mono (show k + 1 + 4 ≤ k + 8 by omega)
    refine ⟨_, pss_cons (ps_if (PW.pt (pw_or (pt_not (pt_val (pe_callB call_isi (by rfl) mi (by decide +kernel) (pa_cons (pv 1) (pa_cons (pe_bltn (v := .ty "tuple") (by rfl) mt (by decide +kernel) rfl) pa_nil))))) (pw_or1 (pt_cmpR op_ne (pe_callB call_len_seq (by rfl) mn PySem.boot_len (pa_cons (pv 1) pa_nil)) pe_int (nomark _))))) (pss_one (ps_ret pe_bl)) pss_nil)
      (pss_cons (ps_asg (pv 1) (pg_tup rfl (pgs_cons (pg_name (i := 2) sc_is_step.nd rfl (.inl rfl)) (pgs_cons (pg_name (i := 3) sc_is_step.nd rfl (.inl rfl)) (pgs_cons (pg_name (i := 4) sc_is_step.nd rfl (.inl rfl)) pgs_nil)))))
      (pss_one (ps_ret (pe_and (pe_call GF hr (by rfl) gF kF bF .nil pass0 (pa_cons (pv 0) (pa_cons (pv 2) (pa_cons (pv 3) pa_nil)))) (pe_one (pe_call GV r5 (by rfl) gV kV bV .nil pass0 (pa_cons (pv 4) (pa_cons (pe_call GP hr (by rfl) gP kP bP .nil pass0 (pa_cons (pv 0) (pa_cons (pv 2) (pa_cons (pv 3) pa_nil)))) pa_nil)))))))), ?_⟩
    have ty := ty_any (K := K) hx
    have no : (∀ a b c, d ≠ .tuple [a, b, c]) → Q (.bl false) H := fun n => q H false ⟨fun z => Bool.noConfusion z, fun ⟨e, _, z⟩ => absurd z (n _ _ _)⟩ (Same.refl H)
    cases d with
    | none => exact ⟨x, rfl, x, .ty "tuple", .type "NoneType", .type "tuple", false, rfl, .ty "tuple", ty, kit_ty (by decide +kernel), false, rfl, iteT (no (fun _ _ _ z => by cases z))⟩
    | bool b => exact ⟨x, rfl, x, .ty "tuple", .type "bool", .type "tuple", false, rfl, .ty "tuple", ty, kit_ty (by decide +kernel), false, rfl, iteT (no (fun _ _ _ z => by cases z))⟩
    | int b => exact ⟨x, rfl, x, .ty "tuple", .type "int", .type "tuple", false, rfl, .ty "tuple", ty, kit_ty (by decide +kernel), false, rfl, iteT (no (fun _ _ _ z => by cases z))⟩
    | str b => exact ⟨x, rfl, x, .ty "tuple", .type "str", .type "tuple", false, rfl, .ty "tuple", ty, kit_ty (by decide +kernel), false, rfl, iteT (no (fun _ _ _ z => by cases z))⟩
    | list b => exact ⟨x, rfl, x, .ty "tuple", .type "list", .type "tuple", false, rfl, .ty "tuple", ty, kit_ty (by decide +kernel), false, rfl, iteT (no (fun _ _ _ z => by cases z))⟩
    | dict b => exact ⟨x, rfl, x, .ty "tuple", .type "dict", .type "tuple", false, rfl, .ty "tuple", ty, kit_ty (by decide +kernel), false, rfl, iteT (no (fun _ _ _ z => by cases z))⟩
    | tuple ts =>
      cases hx with
      | @tup T xs _ _ eT hxs =>
        have lx := all_len hxs
        refine ⟨.ref T, rfl, .ref T, .ty "tuple", .type "tuple", .type "tuple", true, rfl, .ty "tuple", .base (.tup eT), kit_ty (by decide +kernel), true, rfl, iteF ?_⟩
        refine ⟨.ref T, rfl, T, _, rfl, .inr (SqT.of eT), rfl, _, rfl, ite2 (fun e => ?_) (fun e => ?_)⟩
        · refine no (fun a b c z => ?_)
          cases z
          rw [lx] at e
          simp at e
        have e : (xs.length : Int) = 3 := by simpa using e
        match xs, ts, hxs, lx, eT, e with
        | [x1, x2, x3], [a, b, c], .cons h1 (.cons h2 (.cons h3 .nil)), _, eT, _ =>
        obtain ⟨oa, lc⟩ := lk a b c rfl
        refine ⟨.ref T, rfl, T, [x1, x2, x3], rfl, SqT.of eT, rfl, x1, [x2, x3], rfl, x2, [x3], rfl, x3, [], rfl, rfl, ?_⟩
        refine ⟨.ref R, rfl, x1, rfl, x2, rfl, R, m, o, ds, N, x1, x2, a, b, rfl, hrow, ok, h1, h2, oa, fun H1 s1 => ⟨_, rfl, ?_⟩⟩
        cases hf : fitB m ds o a b with
        | false =>
          refine iteF (q H1 false ⟨fun z => Bool.noConfusion z, fun ⟨e, he, z⟩ => ?_⟩ s1)
          obtain ⟨rfl, rfl, _⟩ := step_inj z
          rw [fitB_of he] at hf
          cases hf
        | true =>
          obtain ⟨pe, he, rfl, rfl⟩ := fitB_yes hf
          obtain rfl := any_str h1
          obtain rfl := any_int h2
          refine iteT ?_
          refine ⟨x3, rfl, .ref R, rfl, .str pe.1, rfl, .int pe.2, rfl, R, m, o, pe, ds, rfl, (Same.tups s1).row hrow, ok, he, fun H2 R3 s2 hrow3 => ?_⟩
          have s12 := s1.trans s2
          refine ⟨N, noN, x3, .ref R3, c, _, rfl, any_same s12 h3, any_row hrow3, want_row (put_ok ok he), lc.thing _, fun H3 b hb s3 => ?_⟩
          refine q H3 b ?_ (s12.trans s3)
          rw [hb]
          constructor
          · rintro rfl
            exact ⟨pe, he, rfl⟩
          · rintro ⟨e', he', z⟩
            obtain ⟨z1, z2, z3⟩ := step_inj z
            simp only [PyData.str.injEq] at z1
            simp only [PyData.int.injEq] at z2
            obtain rfl : pe = e' := Prod.ext z1 z2
            exact z3
def spIcA : Sp := fun vs H Q _ => ∃ (R : Addr) (m : Nat) (o : Int) (ds : List Deed) (N : Addr → Prop) (x : V) (d : PyData), vs = [.ref R, x] ∧ RowAt H R m ds o ∧ RowOk m ds o ∧ AnyAt N H x d ∧ ChLk d ∧ ∀ H' b, (b = true ↔ ChnD m ds o d) → Same H H' → Q (.bl b) H'
set_option maxHeartbeats 4000000 in
theorem ok_icA {f fS : Addr} {fd fdS : FuncData} {k : Nat} (F : Fun K "is_chain" "is_chain" s_is_chain f fd)
    (GS : FnOk P w K mg base CX0 (k + 9) fS fdS ["row", "thing"] spIsA) (kS : PySem.W.keepIn K (.ref fS) = true) (bS : Binds K fdS ["row", "thing"] []) (gS : mg "is_step" = some (.ref fS))
    (mi : mg "isinstance" = none) (ml : mg "list" = none) : FnOk P w K mg base CX0 (k + 10) f fd ["row", "thing"] spIcA := by
  refine F.ok sc_is_chain (fun vs H Q E h => ?_) (fun cdv A outer s H vs Q E hr h => ?_)
  · obtain ⟨R, m, o, ds, N, x, d, rfl, _⟩ := h
    rfl
  · obtain ⟨R, m, o, ds, N, x, d, rfl, hrow, ok, hx, lk, q⟩ := h
    refine ⟨_, pss_cons (ps_if (pt_not (pt_val (pe_callB call_isi (by rfl) mi (by decide +kernel) (pa_cons (pv 1) (pa_cons (pe_bltn (v := .ty "list") (by rfl) ml (by decide +kernel) rfl) pa_nil))))) (pss_one (ps_ret pe_bl)) pss_nil)
      (pss_cons (ps_for PassesOwn.never rfl (pi_list (pv 1)) (pg_name (i := 2) sc_is_chain.nd rfl (.inl rfl))
        (pss_cons (ps_if (pt_not (pt_val (pe_call GS hr (by rfl) gS kS bS .nil pass0 (pa_cons (pv 0) (pa_cons (pv 2) pa_nil))))) (pss_one (ps_ret pe_bl)) pss_nil)
        (pss_one (ps_set (i := 0) sc_is_chain.nd rfl (.inl rfl) (pe_ix ix_tup (pv 2) pe_int (fun _ _ => rfl))))))
      (pss_one (ps_ret pe_bl))), ?_⟩
    have ty := ty_any (K := K) hx
    have no : (∀ l, d ≠ .list l) → Q (.bl false) H := fun n => q H false ⟨fun z => Bool.noConfusion z, fun ⟨l, z, _⟩ => absurd z (n _)⟩ (Same.refl H)
    cases d with
    | none => exact ⟨x, rfl, x, .ty "list", .type "NoneType", .type "list", false, rfl, .ty "list", ty, kit_ty (by decide +kernel), false, rfl, iteT (no (fun _ z => by cases z))⟩
    | bool b => exact ⟨x, rfl, x, .ty "list", .type "bool", .type "list", false, rfl, .ty "list", ty, kit_ty (by decide +kernel), false, rfl, iteT (no (fun _ z => by cases z))⟩
    | int b => exact ⟨x, rfl, x, .ty "list", .type "int", .type "list", false, rfl, .ty "list", ty, kit_ty (by decide +kernel), false, rfl, iteT (no (fun _ z => by cases z))⟩
    | str b => exact ⟨x, rfl, x, .ty "list", .type "str", .type "list", false, rfl, .ty "list", ty, kit_ty (by decide +kernel), false, rfl, iteT (no (fun _ z => by cases z))⟩
    | tuple b => exact ⟨x, rfl, x, .ty "list", .type "tuple", .type "list", false, rfl, .ty "list", ty, kit_ty (by decide +kernel), false, rfl, iteT (no (fun _ z => by cases z))⟩
    | dict b => exact ⟨x, rfl, x, .ty "list", .type "dict", .type "list", false, rfl, .ty "list", ty, kit_ty (by decide +kernel), false, rfl, iteT (no (fun _ z => by cases z))⟩
    | list ts =>
      cases hx with
      | @lst p xs _ _ np ep hxs =>
        have lx := all_len hxs
        refine ⟨.ref p, rfl, .ref p, .ty "list", .type "list", .type "list", true, rfl, .ty "list", .base (.lst ep), kit_ty (by decide +kernel), true, rfl, iteF ?_⟩
        refine ⟨.ref p, rfl, p, rfl, ⟨_, .inl (.inl ep)⟩, for_list (K := K) (a := p) (xs := xs) (fun i σ H3 => ∃ (R' : Addr) (ds' : List Deed) (o' : Int) (y2 : Option V), σ = [some (.ref R'), some (.ref p), y2] ∧ RowAt H3 R' m ds' o' ∧ RowOk m ds' o' ∧ (ChnL m ds o ts ↔ ChnL m ds' o' (ts.drop i)) ∧ Same H H3) ⟨R, ds, o, none, rfl, hrow, ok, by rw [List.drop_zero], Same.refl H⟩ (fun i σ H3 _ hp => ?_) (fun i v σ H3 hv hp => ?_) (fun σ H3 hp => ?_)⟩
        · obtain ⟨_, _, _, _, _, _, _, _, s3⟩ := hp
          exact .inl (.inl (s3 _ _ ep))
        · obtain ⟨R', ds', o', y2, rfl, hrow3, ok3, hc, s3⟩ := hp
          obtain ⟨d1, hd1, hv1⟩ := all_get hxs hv
          have il := (List.getElem?_eq_some_iff.mp hd1).1
          have ed : ts.drop i = d1 :: ts.drop (i + 1) := by
            rw [List.drop_eq_getElem_cons il, (List.getElem?_eq_some_iff.mp hd1).2]
          rw [ed] at hc
          refine ⟨.ref R', rfl, v, rfl, R', m, o', ds', N, v, d1, rfl, hrow3, ok3, any_same s3 hv1, lk ts rfl d1 (List.mem_of_getElem? hd1), fun H4 b hb s4 => ⟨_, rfl, ?_⟩⟩
          cases b with
          | false =>
            refine iteT (q H4 false ⟨fun z => Bool.noConfusion z, fun ⟨l, z, hl⟩ => ?_⟩ (s3.trans s4))
            cases z
            obtain ⟨e, he, z, _⟩ := chn_cut (hc.mp hl)
            have := hb.mpr ⟨e, he, z⟩
            cases this
          | true =>
            refine iteF ?_
            obtain ⟨e, he, z⟩ := hb.mp rfl
            have hv4 := any_same (s3.trans s4) hv1
            rw [z] at hv4 hc
            unfold stepD at hv4
            cases hv4 with
            | @tup T vs _ _ eT hvs =>
              cases hvs with
              | @cons v1 _ _ _ g1 g2 =>
                cases g2 with
                | @cons v2 _ _ _ g2 g3 =>
                  cases g3 with
                  | @cons v3 _ _ _ g3 g4 =>
                    cases g4
                    obtain ⟨R2, rfl, hrow2⟩ := row_any g3
                    refine ⟨.ref T, rfl, T, _, 2, .ref R2, rfl, rfl, SqT.of eT, rfl, ?_⟩
                    refine ⟨R2, _, _, _, rfl, hrow2, put_ok ok3 he, ?_, s3.trans s4⟩
                    rw [hc]
                    constructor
                    · intro h
                      obtain ⟨e', he', z', hl⟩ := chn_cut h
                      obtain rfl := step_one z'
                      exact hl
                    · exact fun h => .cons he h
        · obtain ⟨R', ds', o', y2, rfl, hrow3, ok3, hc, s3⟩ := hp
          refine q H3 true ⟨fun _ => ⟨ts, rfl, hc.mpr ?_⟩, fun _ => rfl⟩ s3
          rw [List.drop_of_length_le (by omega)]
          exact .nil
/-! ### k56: _law_right -/
section notinany
variable {X : Cx}
/-- a pair (thing, number) not in a list of pairs (text, number): data without dicts, or the thing a dict -/
def rNotInAny (K : PySem.W.Frag) : R2 := fun x y H Q => rNotInD K x y H Q ∨ ∃ (t e L : Addr) (v : Int) (as : List Addr) (l : List (Str × Int)) (kvs : List (Key × V)), x = .ref t ∧ y = .ref L ∧ H t = some (.tup [.ref e, .int v]) ∧ H e = some (.dK kvs) ∧ H L = some (.lst (as.map V.ref)) ∧ FtAt H as l ∧ Q (.bl true) H
theorem op_notInAny (hu : X.A.units + 65 < cLine) : OpR X (compareOp .NotIn) (rNotInAny X.K) := by
  intro pins s σ H x y v u Q I rx ry h
  rcases h with h | ⟨t, e, L, i, as, l, kvs, rfl, rfl, et, ee, eL, hf, q⟩
  · exact op_notInD hu pins s σ H x y v u Q I rx ry h
  · cases rx
    cases ry
    obtain ⟨its, rv, hl, _⟩ := I.list (.inl (.inl eL))
    obtain ⟨its2, rv2, ht2, _⟩ := I.tuple (SqT.of et)
    obtain ⟨z1, z2, vs, hkv, od, en, ep, e1, e2, e3, e4, e5, e6⟩ := I.hok e _ ee
    refine SeqAt.notIn_listAt (fun _ => false) hl.isList (fun yv hy => ?_) ?_
    · have hy' : yv ∈ its := by simpa using hy
      obtain ⟨j, hj⟩ := List.mem_iff_getElem?.mp hy'
      have item : ∃ (b : Addr) (x : Str) (n : Int), yv = Value.ref b ∧ H b = some (.tup [.str x, .int n]) := by
        have key : ∀ {as : List Addr} {us : List Value} {l : List (Str × Int)}, FtAt H as l → Vals (as.map V.ref) us → ∀ y ∈ us, ∃ (b : Addr) (x : Str) (n : Int), y = Value.ref b ∧ H b = some (.tup [.str x, .int n]) := by
          intro as us l h
          induction h generalizing us with
          | nil => intro r; cases r; intro y hy; cases hy
          | @cons a b _ _ h t ih =>
            intro r
            cases r with
            | cons r rs =>
              intro y hy
              rcases List.mem_cons.mp hy with rfl | hy
              · exact ⟨a, b.1, b.2, r, h⟩
              · exact ih rs y hy
        exact key hf rv yv hy'
      obtain ⟨b, x, n, rfl, eb⟩ := item
      have nbt : b ≠ t := fun z => by rw [z, et] at eb; cases eb
      obtain ⟨its1, rv1, ht1, _⟩ := I.tuple (SqT.of eb)
      have one : ∀ {u : Value}, (∃ tk, u = Value.str x tk) → SeqAt.EqAt X.A.in1.in1 s u (.ref e) false := by
        rintro u ⟨tk, rfl⟩
        obtain ⟨oc, odd, dt, sl⟩ := od
        obtain ⟨c1, c2⟩ := e2
        simp only at c1 e3
        subst c1 e3
        exact eqAt_str_dict x tk e1 (by show X.A.units + 1 + 1 < cLine; omega)
      cases rv1 with
      | @cons _ u1 _ us1 r1 rs1 =>
        cases rs1 with
        | @cons _ u2 _ us2 r2 rs2 =>
          cases rs2
          cases rv2 with
          | @cons _ w1 _ ws1 q1 qs1 =>
            cases qs1 with
            | @cons _ w2 _ ws2 q2 qs2 =>
              cases qs2
              obtain rfl : w1 = Value.ref e := q1
              have hu1 : ∃ tk, u1 = Value.str x tk := r1
              refine SeqAt.EqAt.of_refs nbt ?_
              have := SeqAt.RcAt.tuples (A := X.A.in1) (s := s) (l := b) (b := t) (e := fun j => if j = 0 then false else (n == i)) ht1 ht2 (by show X.A.units + 1 < cLine; omega) (fun j j1 j2 => ?_)
              · simpa [List.range_succ] using this
              · have jj : j = 0 ∨ j = 1 := by
                  have : j < 2 := by simpa using j1
                  omega
                rcases jj with rfl | rfl
                · simpa using one hu1
                · obtain ⟨tk, rfl⟩ := r2
                  obtain ⟨tk', rfl⟩ := q2
                  have := SeqAt.EqAt.int_int (A := X.A.in1.in1) (s := s) n tk i tk'
                  simpa using this
    · have e0 : (!its.toArray.any (fun _ => false)) = true := by simp
      rw [e0]
      exact ⟨.bl true, H, I, rfl, q⟩
end notinany
def spLr : Sp := fun vs H Q _ => ∃ (R : Addr) (m : Nat) (o : Int) (ds : List Deed) (N : Addr → Prop) (x : V) (d : PyData), vs = [.ref R, x] ∧ RowAt H R m ds o ∧ RowOk m ds o ∧ AnyAt N H x d ∧ ChLk d ∧ ∀ H' b, (b = true ↔ ChnD m ds o d) → Same H H' → Q (.bl b) H'
set_option maxHeartbeats 8000000 in
theorem ok_lr {f fX fQ : Addr} {fd fdX fdQ : FuncData} {k : Nat} (F : Fun K "_law_right" "_law_right" s_law_right f fd)
    (GX : FnOk P w K mg base CX0 (k + 5) fX fdX ["row"] spFi) (kX : PySem.W.keepIn K (.ref fX) = true) (bX : Binds K fdX ["row"] []) (gX : mg "_law_fitting" = some (.ref fX))
    (GQ : FnOk P w K mg base CX0 (k + 5) fQ fdQ ["row", "rule", "value"] spPb) (kQ : PySem.W.keepIn K (.ref fQ) = true) (bQ : Binds K fdQ ["row", "rule", "value"] []) (gQ : mg "_law_put" = some (.ref fQ))
    (mIs : mg "isinstance" = none) (ml : mg "list" = none) (mt : mg "tuple" = none) (mn : mg "len" = none) (mI : mg "int" = none) (mB : mg "bool" = none) (mp : mg "repr" = none) : FnG P w K mg base (k + 6) f fd ["row", "thing"] spLr := by
  refine fun_okG F sc_law_right (fun vs H Q E h => ?_) (fun cdv A outer s H vs Q E hr hg h => ?_)
  · obtain ⟨R, m, o, ds, N, x, d, rfl, _⟩ := h
    rfl
  · obtain ⟨R, m, o, ds, N, x, d, rfl, hrow, ok, hx, lk, q⟩ := h
    have hu65 := hu65_of hr
    refine ⟨_, pss_cons (ps_if (pt_not (pt_val (pe_callB call_isi (by rfl) mIs (by decide +kernel) (pa_cons (pv 1) (pa_cons (pe_bltn (v := .ty "list") (by rfl) ml (by decide +kernel) rfl) pa_nil)))))
    (pss_one (ps_ret pe_bl))
    pss_nil)
    (pss_cons (ps_for PassesOwn.never rfl (pi_list (pv 1)) (pg_name (i := 2) sc_law_right.nd rfl (.inl rfl))
    (pss_cons (ps_if (PW.pt (pw_or (pt_not (pt_val (pe_callB call_isi (by rfl) mIs (by decide +kernel) (pa_cons (pv 2) (pa_cons (pe_bltn (v := .ty "tuple") (by rfl) mt (by decide +kernel) rfl) pa_nil))))) (pw_or (pt_cmpR op_ne (pe_callB call_len_seq (by rfl) mn PySem.boot_len (pa_cons (pv 2) pa_nil)) pe_int (nomark _)) (pw_or (pt_not (pt_val (pe_callB call_isi (by rfl) mIs (by decide +kernel) (pa_cons (pe_ix ix_tup (pv 2) pe_int (fun _ _ => rfl)) (pa_cons (pe_bltn (v := .ty "int") (by rfl) mI (by decide +kernel) rfl) pa_nil))))) (pw_or1 (pt_val (pe_callB call_isi (by rfl) mIs (by decide +kernel) (pa_cons (pe_ix ix_tup (pv 2) pe_int (fun _ _ => rfl)) (pa_cons (pe_bltn (v := .ty "bool") (by rfl) mB (by decide +kernel) rfl) pa_nil)))))))))
    (pss_one (ps_ret pe_bl))
    pss_nil)
    (pss_cons (ps_if (PW.pt (pw_or (pt_cmpR (op_notInAny hu65) (pe_tup (pa_cons (pe_ix ix_tup (pv 2) pe_int (fun _ _ => rfl)) (pa_cons (pe_ix ix_tup (pv 2) pe_int (fun _ _ => rfl)) pa_nil))) (pe_call GX hr (by rfl) gX kX bX .nil pass0 (pa_cons (pv 0) pa_nil)) (by rfl)) (pw_or1 (pt_cmpR op_ne (pe_callB (call_repr hg hr.units) (by rfl) mp (by decide +kernel) (pa_cons (pe_ix ix_tup (pv 2) pe_int (fun _ _ => rfl)) pa_nil)) (pe_callB (call_repr hg hr.units) (by rfl) mp (by decide +kernel) (pa_cons (pe_call GQ hr (by rfl) gQ kQ bQ .nil pass0 (pa_cons (pv 0) (pa_cons (pe_ix ix_tup (pv 2) pe_int (fun _ _ => rfl)) (pa_cons (pe_ix ix_tup (pv 2) pe_int (fun _ _ => rfl)) pa_nil)))) pa_nil)) (nomark _)))))
    (pss_one (ps_ret pe_bl))
    pss_nil)
    (pss_one (ps_set (i := 0) sc_law_right.nd rfl (.inl rfl) (pe_ix ix_tup (pv 2) pe_int (fun _ _ => rfl)))))))
    (pss_one (ps_ret pe_bl))), ?_⟩
    have ty := ty_any (K := K) hx
    have no : (∀ l, d ≠ .list l) → Q (.bl false) H := fun n => q H false ⟨fun z => Bool.noConfusion z, fun ⟨l, z, _⟩ => absurd z (n _)⟩ (Same.refl H)
    cases d with
    | none => exact ⟨x, rfl, x, .ty "list", .type "NoneType", .type "list", false, rfl, .ty "list", ty, kit_ty (by decide +kernel), false, rfl, iteT (no (fun _ z => by cases z))⟩
    | bool b => exact ⟨x, rfl, x, .ty "list", .type "bool", .type "list", false, rfl, .ty "list", ty, kit_ty (by decide +kernel), false, rfl, iteT (no (fun _ z => by cases z))⟩
    | int b => exact ⟨x, rfl, x, .ty "list", .type "int", .type "list", false, rfl, .ty "list", ty, kit_ty (by decide +kernel), false, rfl, iteT (no (fun _ z => by cases z))⟩
    | str b => exact ⟨x, rfl, x, .ty "list", .type "str", .type "list", false, rfl, .ty "list", ty, kit_ty (by decide +kernel), false, rfl, iteT (no (fun _ z => by cases z))⟩
    | tuple b => exact ⟨x, rfl, x, .ty "list", .type "tuple", .type "list", false, rfl, .ty "list", ty, kit_ty (by decide +kernel), false, rfl, iteT (no (fun _ z => by cases z))⟩
    | dict b => exact ⟨x, rfl, x, .ty "list", .type "dict", .type "list", false, rfl, .ty "list", ty, kit_ty (by decide +kernel), false, rfl, iteT (no (fun _ z => by cases z))⟩
    | list ts =>
      cases hx with
      | @lst p xs _ _ np ep hxs =>
        have lx := all_len hxs
        refine ⟨.ref p, rfl, .ref p, .ty "list", .type "list", .type "list", true, rfl, .ty "list", .base (.lst ep), kit_ty (by decide +kernel), true, rfl, iteF ?_⟩
        refine ⟨.ref p, rfl, p, rfl, ⟨_, .inl (.inl ep)⟩, for_list (K := K) (a := p) (xs := xs) (fun i σ H3 => ∃ (R' : Addr) (ds' : List Deed) (o' : Int) (y2 : Option V), σ = [some (.ref R'), some (.ref p), y2] ∧ RowAt H3 R' m ds' o' ∧ RowOk m ds' o' ∧ (ChnL m ds o ts ↔ ChnL m ds' o' (ts.drop i)) ∧ Same H H3) ⟨R, ds, o, none, rfl, hrow, ok, by rw [List.drop_zero], Same.refl H⟩ (fun i σ H3 _ hp => ?_) (fun i v σ H3 hv hp => ?_) (fun σ H3 hp => ?_)⟩
        · obtain ⟨_, _, _, _, _, _, _, _, s3⟩ := hp
          exact .inl (.inl (s3 _ _ ep))
        · obtain ⟨R', ds', o', y2, rfl, hrow3, ok3, hc, s3⟩ := hp
          obtain ⟨d1, hd1, hv1⟩ := all_get hxs hv
          have il := (List.getElem?_eq_some_iff.mp hd1).1
          have ed : ts.drop i = d1 :: ts.drop (i + 1) := by
            rw [List.drop_eq_getElem_cons il, (List.getElem?_eq_some_iff.mp hd1).2]
          rw [ed] at hc
          have hv3 := any_same s3 hv1
          have lk1 := lk ts rfl d1 (List.mem_of_getElem? hd1)
          have nay : ∀ H4, Same H3 H4 → (∀ e ∈ fitL m ds' o', d1 ≠ stepD m ds' o' e) → Q (.bl false) H4 := fun H4 s4 n => by
            refine q H4 false ⟨fun z => Bool.noConfusion z, fun ⟨l, z, hl⟩ => ?_⟩ (s3.trans s4)
            cases z
            obtain ⟨e, he, z, _⟩ := chn_cut (hc.mp hl)
            exact absurd z (n e he)
          have ty1 := ty_any (K := K) hv3
          cases d1 with
          | none => exact ⟨v, rfl, v, .ty "tuple", .type "NoneType", .type "tuple", false, rfl, .ty "tuple", ty1, kit_ty (by decide +kernel), false, rfl, iteT (nay _ (Same.refl _) (fun _ _ z => by cases z))⟩
          | bool b => exact ⟨v, rfl, v, .ty "tuple", .type "bool", .type "tuple", false, rfl, .ty "tuple", ty1, kit_ty (by decide +kernel), false, rfl, iteT (nay _ (Same.refl _) (fun _ _ z => by cases z))⟩
          | int b => exact ⟨v, rfl, v, .ty "tuple", .type "int", .type "tuple", false, rfl, .ty "tuple", ty1, kit_ty (by decide +kernel), false, rfl, iteT (nay _ (Same.refl _) (fun _ _ z => by cases z))⟩
          | str b => exact ⟨v, rfl, v, .ty "tuple", .type "str", .type "tuple", false, rfl, .ty "tuple", ty1, kit_ty (by decide +kernel), false, rfl, iteT (nay _ (Same.refl _) (fun _ _ z => by cases z))⟩
          | list b => exact ⟨v, rfl, v, .ty "tuple", .type "list", .type "tuple", false, rfl, .ty "tuple", ty1, kit_ty (by decide +kernel), false, rfl, iteT (nay _ (Same.refl _) (fun _ _ z => by cases z))⟩
          | dict b => exact ⟨v, rfl, v, .ty "tuple", .type "dict", .type "tuple", false, rfl, .ty "tuple", ty1, kit_ty (by decide +kernel), false, rfl, iteT (nay _ (Same.refl _) (fun _ _ z => by cases z))⟩
          | tuple us =>
            cases hv3 with
            | @tup T vs _ _ eT hvs =>
              have lv := all_len hvs
              refine ⟨.ref T, rfl, .ref T, .ty "tuple", .type "tuple", .type "tuple", true, rfl, .ty "tuple", .base (.tup eT), kit_ty (by decide +kernel), true, rfl, iteF ?_⟩
              refine ⟨.ref T, rfl, T, _, rfl, .inr (SqT.of eT), rfl, _, rfl, ite2 (fun e => ?_) (fun e => ?_)⟩
              · refine nay _ (Same.refl _) (fun e' he' z => ?_)
                cases z
                rw [lv] at e
                simp at e
              have e3 : (vs.length : Int) = 3 := by simpa using e
              clear e
              match vs, us, hvs, lv, eT, e3, hv1, ty1, lk1, hc, nay with
              | [x1, x2, x3], [a, b, c], .cons h1 (.cons h2 (.cons h3 .nil)), _, eT, _, hv1, ty1, lk1, hc, nay =>
              obtain ⟨oa, lc⟩ := lk1 a b c rfl
              refine ⟨.ref T, rfl, T, _, 1, x2, rfl, rfl, SqT.of eT, rfl, ?_⟩
              have ty2 := ty_any (K := K) h2
              have nb : ∀ H4, Same H3 H4 → (∀ i, b ≠ .int i) → Q (.bl false) H4 := fun H4 s4 n => nay _ s4 (fun e he z => n _ (step_inj z).2.1)
              cases b with
              | none => exact ⟨x2, .ty "int", .type "NoneType", .type "int", false, rfl, .ty "int", ty2, kit_ty (by decide +kernel), false, rfl, iteT (nb _ (Same.refl _) (fun _ z => by cases z))⟩
              | str b => exact ⟨x2, .ty "int", .type "str", .type "int", false, rfl, .ty "int", ty2, kit_ty (by decide +kernel), false, rfl, iteT (nb _ (Same.refl _) (fun _ z => by cases z))⟩
              | list b => exact ⟨x2, .ty "int", .type "list", .type "int", false, rfl, .ty "int", ty2, kit_ty (by decide +kernel), false, rfl, iteT (nb _ (Same.refl _) (fun _ z => by cases z))⟩
              | tuple b => exact ⟨x2, .ty "int", .type "tuple", .type "int", false, rfl, .ty "int", ty2, kit_ty (by decide +kernel), false, rfl, iteT (nb _ (Same.refl _) (fun _ z => by cases z))⟩
              | dict b => exact ⟨x2, .ty "int", .type "dict", .type "int", false, rfl, .ty "int", ty2, kit_ty (by decide +kernel), false, rfl, iteT (nb _ (Same.refl _) (fun _ z => by cases z))⟩
              | bool b => exact ⟨x2, .ty "int", .type "bool", .type "int", true, rfl, .ty "int", ty2, kit_ty (by decide +kernel), true, rfl, iteF ⟨.ref T, rfl, T, _, 1, x2, rfl, rfl, SqT.of eT, rfl, x2, .ty "bool", .type "bool", .type "bool", true, rfl, .ty "bool", ty2, kit_ty (by decide +kernel), true, rfl, iteT (nb _ (Same.refl _) (fun _ z => by cases z))⟩⟩
              | int i2 =>
                refine ⟨x2, .ty "int", .type "int", .type "int", true, rfl, .ty "int", ty2, kit_ty (by decide +kernel), true, rfl, iteF ⟨.ref T, rfl, T, _, 1, x2, rfl, rfl, SqT.of eT, rfl, x2, .ty "bool", .type "int", .type "bool", false, rfl, .ty "bool", ty2, kit_ty (by decide +kernel), false, rfl, iteF ?_⟩⟩
                obtain rfl := any_int h2
                refine ⟨.ref T, rfl, T, _, 0, x1, rfl, rfl, SqT.of eT, rfl, .ref T, rfl, T, _, 1, .int i2, rfl, rfl, SqT.of eT, rfl, (by show 2 ≤ sizeLine; decide), fun U hU => ?_⟩
                have sU := same_new (o := .tup [x1, .int i2]) hU
                refine ⟨.ref R', rfl, R', m, o', ds', rfl, (Same.tups sU).row hrow3, ok3, fun H4 L ls s4 nL eL hls => ?_⟩
                have eU4 := s4 _ _ (show upd H3 U (.tup [x1, .int i2]) U = _ from upd_same)
                have s34 := sU.trans s4
                have h14 := any_same s34 h1
                have fit : fitB m ds' o' a (.int i2) = (fitL m ds' o').any ((fun z => PyData.eqv z (.tuple [a, .int i2])) ∘ fD) := by
                  unfold fitB
                  rw [show isInt (.int i2) = true from rfl, Bool.true_and]
                  rfl
                have key : ∀ {Qk : VK}, Qk (.bl (!fitB m ds' o' a (.int i2))) H4 → rNotInAny K (.ref U) (.ref L) H4 Qk := fun hq => by
                  rcases oa.kind with rfl | ⟨k1, k2⟩
                  · have : fitB m ds' o' (.dict []) (.int i2) = false := by
                      cases e : fitB m ds' o' (.dict []) (.int i2) with
                      | false => rfl
                      | true =>
                        obtain ⟨_, _, h, _⟩ := fitB_yes e
                        cases h
                    rw [this] at hq
                    cases h14 with
                    | dic _ e => exact .inr ⟨U, _, L, i2, ls, fitL m ds' o', _, rfl, rfl, eU4, e, eL, hls, hq⟩
                  · have sh : SeqAt.shaped (.tuple [a, .int i2]) = true := by
                      have dd := oa.nice.dp
                      refine shp (by simp only [PyData.canLay0, PyData.canLayAll0, k2, Bool.and_true]) ?_
                      simp only [PyData.depth, PyData.depthAll]
                      omega
                    refine .inl ⟨.tuple [a, .int i2], (fitL m ds' o').map fD, .tup (SqT.of eU4) (.cons (dp_any h14 k1) (.cons (.int i2) .nil)), .lst (.inl (.inl eL)) (dp_fDs hls), sh, shaped_fDs (fitL_wd m ds' o'), ?_⟩
                    rw [List.any_map, ← fit]
                    exact hq
                refine key ⟨_, rfl, ?_⟩
                cases hf : fitB m ds' o' a (.int i2) with
                | false =>
                  refine iteT (nay _ s34 (fun e he z => ?_))
                  obtain ⟨rfl, z2, _⟩ := step_inj z
                  rw [z2, fitB_of he] at hf
                  cases hf
                | true =>
                  obtain ⟨pe, he, rfl, z2⟩ := fitB_yes hf
                  simp only [PyData.int.injEq] at z2
                  subst z2
                  obtain rfl := any_str h1
                  have eT4 := s34 _ _ eT
                  have h34 := any_same s34 h3
                  refine iteF ⟨.ref T, rfl, T, _, 2, x3, rfl, rfl, SqT.of eT4, rfl, ?_⟩
                  refine ⟨x3, c, rfl, .inl (rz_any h34), lc.nice.sh, Nat.le_trans lc.nice.dp (by decide), lc.nice.fits (by decide), ?_⟩
                  refine ⟨.ref R', rfl, .ref T, rfl, T, _, 0, .str pe.1, rfl, rfl, SqT.of eT4, rfl, .ref T, rfl, T, _, 1, .int pe.2, rfl, rfl, SqT.of eT4, rfl, R', m, o', pe, ds', rfl, (Same.tups s34).row hrow3, ok3, he, fun H5 R5 s5 hrow5 => ?_⟩
                  have ok5 := put_ok ok3 he
                  have nr := nice_row ok5
                  refine ⟨.ref R5, rowD m (putD m ds' pe) (putO m ds' o' pe), rfl, .inl (rz_row hrow5), nr.sh, Nat.le_trans nr.dp (by decide), nr.fits (by decide), rfl, _, rfl, ite2 (fun e => ?_) (fun e => ?_)⟩
                  · refine nay _ (s34.trans s5) (fun e' he' z => ?_)
                    obtain ⟨z1, z2, z3⟩ := step_inj z
                    simp only [PyData.str.injEq] at z1
                    simp only [PyData.int.injEq] at z2
                    obtain rfl : pe = e' := Prod.ext z1 z2
                    rw [z3] at e
                    simp at e
                  · have ee : c.shown = (rowD m (putD m ds' pe) (putO m ds' o' pe)).shown := by simpa using e
                    obtain rfl := shown_row ok5 lc ee
                    obtain ⟨R2, rfl, hrow2⟩ := row_any (any_same s5 h34)
                    refine ⟨.ref T, rfl, T, _, 2, .ref R2, rfl, rfl, SqT.of (s5 _ _ eT4), rfl, ?_⟩
                    refine ⟨R2, _, _, _, rfl, hrow2, ok5, ?_, s3.trans (s34.trans s5)⟩
                    rw [hc]
                    constructor
                    · intro h
                      obtain ⟨e', he', z', hl⟩ := chn_cut h
                      have z' : stepD m ds' o' pe = stepD m ds' o' e' := z'
                      obtain rfl := step_one z'
                      exact hl
                    · exact fun h => ChnL.cons (e := pe) he h
        · obtain ⟨R', ds', o', y2, rfl, hrow3, ok3, hc, s3⟩ := hp
          refine q H3 true ⟨fun _ => ⟨ts, rfl, hc.mpr ?_⟩, fun _ => rfl⟩ s3
          rw [List.drop_of_length_le (by omega)]
          exact .nil
/-! ### xs != [] -/
def rNeL0 : R2 := fun x y H Q => ∃ (a b : Addr) (xs : List V), x = .ref a ∧ y = .ref b ∧ H a = some (.lst xs) ∧ H b = some (.lst []) ∧ Q (.bl (!xs.isEmpty)) H
theorem op_neL0 {X : Cx} (hu : X.A.units + 64 < cLine) : OpR X (compareOp .NotEq) rNeL0 := by
  intro pins s σ H x y v u Q I rx ry h
  obtain ⟨a, b, xs, rfl, rfl, ea, eb, q⟩ := h
  cases rx
  cases ry
  obtain ⟨i1, rv1, h1, _⟩ := I.list (.inl (.inl ea))
  obtain ⟨i2, rv2, h2, _⟩ := I.list (.inl (.inl eb))
  cases rv2
  cases rv1 with
  | nil =>
    have r := SeqAt.RcNeAt.lists (A := X.A) (s := s) (e := fun _ => true) h1.isList h2.isList rfl (by omega) (fun j j1 _ => absurd j1 (by simp))
    exact r _ _ _ _ ⟨.bl false, H, I, rfl, q⟩
  | cons r rs =>
    have r := SeqAt.RcNeAt.lists_lengths (A := X.A) (s := s) h1.isList h2.isList (by simp) (by omega)
    exact r _ _ _ _ ⟨.bl true, H, I, rfl, q⟩
/-! ### xs == [] -/
def rEqL0 : R2 := fun x y H Q => ∃ (a b : Addr) (xs : List V), x = .ref a ∧ y = .ref b ∧ H a = some (.lst xs) ∧ H b = some (.lst []) ∧ Q (.bl xs.isEmpty) H
theorem op_eqL0 {X : Cx} (hu : X.A.units + 64 < cLine) : OpR X (compareOp .Eq) rEqL0 := by
  intro pins s σ H x y v u Q I rx ry h
  obtain ⟨a, b, xs, rfl, rfl, ea, eb, q⟩ := h
  cases rx
  cases ry
  obtain ⟨i1, rv1, h1, _⟩ := I.list (.inl (.inl ea))
  obtain ⟨i2, rv2, h2, _⟩ := I.list (.inl (.inl eb))
  cases rv2
  cases rv1 with
  | nil =>
    have r := SeqAt.RcAt.lists (A := X.A) (s := s) (e := fun _ => true) h1.isList h2.isList rfl (by omega) (fun j j1 _ => absurd j1 (by simp))
    exact r _ _ _ _ ⟨.bl true, H, I, rfl, q⟩
  | cons r rs =>
    have r := SeqAt.RcAt.lists_lengths (A := X.A) (s := s) h1.isList h2.isList (by simp) (by omega)
    exact r _ _ _ _ ⟨.bl false, H, I, rfl, q⟩
/-! ### k56: what a chain weighs; _law_made -/
theorem sum_le {g : Int → Int} : ∀ {l : List Int}, (∀ x ∈ l, g x ≤ x) → (l.map g).sum ≤ l.sum
  | [], _ => Int.le_refl _
  | x :: l, h => by
    have a := h x List.mem_cons_self
    have b := sum_le (l := l) fun y hy => h y (List.mem_cons_of_mem _ hy)
    rw [List.map_cons, List.sum_cons, List.sum_cons]
    omega
theorem sum_lt {g : Int → Int} {v : Int} : ∀ {l : List Int}, (∀ x ∈ l, g x ≤ x) → v ∈ l → g v < v → (l.map g).sum < l.sum
  | [], _, h, _ => nomatch h
  | x :: l, h, hv, hg => by
    have a := h x List.mem_cons_self
    have b := sum_le (l := l) fun y hy => h y (List.mem_cons_of_mem _ hy)
    rw [List.map_cons, List.sum_cons, List.sum_cons]
    rcases List.mem_cons.mp hv with rfl | hv
    · omega
    · have c := sum_lt (l := l) (fun y hy => h y (List.mem_cons_of_mem _ hy)) hv hg
      omega
def dsum (ds : List Deed) : Int := (ds.map fun d => d.2.sum).sum
def wgt (ds : List Deed) (o : Int) : Int := (ds.length : Int) + dsum ds + o
theorem dsum_cons (d : Deed) (ds : List Deed) : dsum (d :: ds) = d.2.sum + dsum ds := by
  unfold dsum
  rw [List.map_cons, List.sum_cons]
theorem dsum_app (ds es : List Deed) : dsum (ds ++ es) = dsum ds + dsum es := by
  unfold dsum
  rw [List.map_append, List.sum_append]
theorem ren_sum (nu : List Int) (d : Deed) : (renD nu d).2.sum = (d.2.map fun z => nu.getD z.toNat 0).sum := rfl
theorem dsum_le {nu : List Int} : ∀ {ds : List Deed}, (∀ d ∈ ds, ∀ x ∈ d.2, nu.getD x.toNat 0 ≤ x) → dsum (ds.map (renD nu)) ≤ dsum ds
  | [], _ => Int.le_refl _
  | d :: ds, h => by
    rw [List.map_cons, dsum_cons, dsum_cons, ren_sum]
    have a := sum_le (g := fun z => nu.getD z.toNat 0) (l := d.2) (h d List.mem_cons_self)
    have b := dsum_le (ds := ds) fun e he => h e (List.mem_cons_of_mem _ he)
    omega
theorem dsum_lt {nu : List Int} {v : Int} : ∀ {ds : List Deed}, (∀ d ∈ ds, ∀ x ∈ d.2, nu.getD x.toNat 0 ≤ x) → (∃ d ∈ ds, v ∈ d.2) → nu.getD v.toNat 0 < v → dsum (ds.map (renD nu)) < dsum ds
  | [], _, ⟨_, h, _⟩, _ => nomatch h
  | d :: ds, h, ⟨e, he, hv⟩, hg => by
    rw [List.map_cons, dsum_cons, dsum_cons, ren_sum]
    have a := sum_le (g := fun z => nu.getD z.toNat 0) (l := d.2) (h d List.mem_cons_self)
    have b := dsum_le (ds := ds) fun e he => h e (List.mem_cons_of_mem _ he)
    rcases List.mem_cons.mp he with rfl | he
    · have c := sum_lt (g := fun z => nu.getD z.toNat 0) (l := e.2) (h e List.mem_cons_self) hv hg
      omega
    · have c := dsum_lt (ds := ds) (fun e he => h e (List.mem_cons_of_mem _ he)) ⟨e, he, hv⟩ hg
      omega
theorem sum_pos : ∀ {l : List Int}, (∀ x ∈ l, 0 ≤ x) → 0 ≤ l.sum
  | [], _ => Int.le_refl _
  | x :: l, h => by
    have a := h x List.mem_cons_self
    have b := sum_pos (l := l) fun y hy => h y (List.mem_cons_of_mem _ hy)
    rw [List.sum_cons]
    omega
theorem dsum_pos : ∀ {ds : List Deed}, (∀ d ∈ ds, ∀ x ∈ d.2, 0 ≤ x) → 0 ≤ dsum ds
  | [], _ => Int.le_refl _
  | d :: ds, h => by
    have a := sum_pos (h d List.mem_cons_self)
    have b := dsum_pos (ds := ds) fun y hy => h y (List.mem_cons_of_mem _ hy)
    rw [dsum_cons]
    omega
theorem sum_max {M : Int} : ∀ {l : List Int}, (∀ x ∈ l, x ≤ M) → l.sum ≤ (l.length : Int) * M
  | [], _ => by simp
  | x :: l, h => by
    have a := h x List.mem_cons_self
    have b := sum_max (l := l) fun y hy => h y (List.mem_cons_of_mem _ hy)
    rw [List.sum_cons, List.length_cons, Int.natCast_add, Int.add_mul]
    omega
theorem row_nums {m : Nat} {ds : List Deed} {o : Int} (ok : RowOk m ds o) : ∀ d ∈ ds, d.2.length ≤ 2 ∧ ∀ x ∈ d.2, 0 ≤ x ∧ x < ((m + ds.length : Nat) : Int) := fun d hd => by
  have dk := deeds_in ok.deeds d hd
  exact ⟨fw_len dk, dk.ahead⟩
def gsum : Nat → Nat → Nat
  | _, 0 => 0
  | off, n + 1 => 2 * off + gsum (off + 1) n
theorem dsum_max : ∀ {ds : List Deed} {off : Nat}, (∀ (k : Nat) (d : Deed), ds[k]? = some d → d.2.length ≤ 2 ∧ ∀ x ∈ d.2, x ≤ (off : Int) + (k : Int)) → dsum ds ≤ (gsum off ds.length : Nat)
  | [], _, _ => by unfold dsum gsum; simp
  | d :: ds, off, h => by
    obtain ⟨h1, h2⟩ := h 0 d rfl
    have a := sum_max (M := (off : Int)) (l := d.2) fun x hx => by have := h2 x hx; omega
    have b := dsum_max (ds := ds) (off := off + 1) fun k e he => by
      obtain ⟨g1, g2⟩ := h (k + 1) e he
      exact ⟨g1, fun x hx => by have := g2 x hx; omega⟩
    rw [dsum_cons, List.length_cons]
    have c : (d.2.length : Int) * (off : Int) ≤ 2 * (off : Int) := Int.mul_le_mul_of_nonneg_right (by omega) (by omega)
    show d.2.sum + dsum ds ≤ ((2 * off + gsum (off + 1) ds.length : Nat) : Int)
    omega
theorem gsum_8 : ∀ n, n ≤ 8 → gsum 2 n ≤ 88 := by decide +kernel
theorem wgt_at {m : Nat} {ds : List Deed} {o : Int} (ok : RowOk m ds o) : 0 ≤ wgt ds o ∧ wgt ds o ≤ 106 := by
  have l8 := ok.len
  have m3 := ok.m3
  have o0 := ok.o0
  have o1 := ok.o1
  have h := row_nums ok
  have a := dsum_pos (ds := ds) fun d hd x hx => ((h d hd).2 x hx).1
  have b := dsum_max (ds := ds) (off := 2) fun k d hd => by
    have dk := ok.deeds.each k d hd
    exact ⟨fw_len dk, fun x hx => by have := dk.ahead x hx; omega⟩
  have c := gsum_8 ds.length l8
  unfold wgt
  omega
theorem fitL_used {m : Nat} {ds : List Deed} {o : Int} {e : Str × Int} (h : e ∈ fitL m ds o) (ne : ¬ e.1 = "drop") : hadB ds o e.2 = true := by
  unfold fitL at h
  rcases List.mem_append.mp h with h | h
  · obtain ⟨i, _, rfl⟩ := List.mem_map.mp h
    exact absurd rfl ne
  · obtain ⟨i, hi, rfl⟩ := List.mem_map.mp h
    have := (List.mem_filter.mp hi).2
    rw [Bool.and_eq_true] at this
    exact this.1
theorem put_wgt {m : Nat} {ds : List Deed} {o : Int} {e : Str × Int} (ok : RowOk m ds o) (he : e ∈ fitL m ds o) : wgt (putD m ds e) (putO m ds o e) < wgt ds o := by
  have h := row_nums ok
  have o0 := ok.o0
  have o1 := ok.o1
  unfold wgt
  by_cases c : e.1 = "drop"
  · obtain ⟨i, hi, e2, hh⟩ := fitL_drop he c
    have e3 : e.2.toNat - m = i := by rw [e2, Int.toNat_natCast]; omega
    unfold putD putO
    rw [if_pos c, if_pos c, e3]
    unfold drpD drpO
    have le : ∀ x : Int, 0 ≤ x → x < ((m + ds.length : Nat) : Int) → (nuD (m + ds.length) ((m + i : Nat) : Int)).getD x.toNat 0 ≤ x := fun x h0 h1 => by
      rw [nuD_get h0 h1]
      split <;> omega
    have mem : ∀ d ∈ ds.take i ++ ds.drop (i + 1), d ∈ ds := fun d hd => by
      rcases List.mem_append.mp hd with hd | hd
      · exact List.mem_of_mem_take hd
      · exact List.mem_of_mem_drop hd
    have a := dsum_le (nu := nuD (m + ds.length) ((m + i : Nat) : Int)) (ds := ds.take i ++ ds.drop (i + 1)) fun d hd x hx => le x ((h d (mem d hd)).2 x hx).1 ((h d (mem d hd)).2 x hx).2
    have b : dsum (ds.take i ++ ds.drop (i + 1)) ≤ dsum ds := by
      have e1 : dsum ds = dsum (ds.take i) + (ds[i].2.sum + dsum (ds.drop (i + 1))) := by
        rw [← dsum_cons, ← List.drop_eq_getElem_cons hi, ← dsum_app, List.take_append_drop]
      have p := sum_pos (l := ds[i].2) fun x hx => ((h ds[i] (List.getElem_mem hi)).2 x hx).1
      rw [dsum_app]
      omega
    have l := le o o0 (by omega)
    have ln : ((ds.take i ++ ds.drop (i + 1)).map (renD (nuD (m + ds.length) ((m + i : Nat) : Int)))).length = ds.length - 1 := by
      rw [List.length_map, List.length_append, List.length_take, List.length_drop]
      omega
    rw [ln]
    omega
  · obtain ⟨i, hi, ei⟩ := fitL_mem he
    have nes := fitL_same he c
    have hu := fitL_used he c
    rw [ei, Int.toNat_natCast] at nes
    unfold putD putO
    rw [if_neg c, if_neg c, ei, Int.toNat_natCast]
    unfold bckD bckO
    have fl : frs m ds (m + i) < m + i := by
      have := (frs_spec m ds (m + i)).1
      omega
    have le : ∀ x : Int, 0 ≤ x → x < ((m + ds.length : Nat) : Int) → (nuB (m + ds.length) (m + i) (frs m ds (m + i))).getD x.toNat 0 ≤ x := fun x h0 h1 => by
      rw [nuB_get h0 h1]
      split <;> omega
    have lt : (nuB (m + ds.length) (m + i) (frs m ds (m + i))).getD (((m + i : Nat) : Int)).toNat 0 < ((m + i : Nat) : Int) := by
      rw [nuB_get (by omega) (by omega), if_pos rfl]
      omega
    have a := dsum_le (nu := nuB (m + ds.length) (m + i) (frs m ds (m + i))) (ds := ds) fun d hd x hx => le x ((h d hd).2 x hx).1 ((h d hd).2 x hx).2
    have l := le o o0 (by omega)
    rw [List.length_map]
    rw [ei] at hu
    unfold hadB at hu
    rw [Bool.or_eq_true] at hu
    rcases hu with hu | hu
    · have hu := of_decide_eq_true hu
      rw [← hu] at l ⊢
      omega
    · obtain ⟨d, hd, hv⟩ := List.any_eq_true.mp hu
      have b := dsum_lt (nu := nuB (m + ds.length) (m + i) (frs m ds (m + i))) (ds := ds) (fun d hd x hx => le x ((h d hd).2 x hx).1 ((h d hd).2 x hx).2) ⟨d, hd, of_decide_eq_true hv⟩ lt
      omega
/-! things that stand at no address that changes -/
/-- a step of a chain, as data -/
def GStep (m : Nat) (d : PyData) : Prop := ∃ (e : Str × Int) (ds : List Deed) (o : Int), FWd e.1 ∧ 0 ≤ e.2 ∧ e.2 < 100 ∧ RowOk m ds o ∧ d = .tuple [.str e.1, .int e.2, rowD m ds o]
theorem any_intsN {N : Addr → Prop} {H : Hp} : ∀ l : List Int, AnyAll N H (l.map V.int) (l.map PyData.int)
  | [] => .nil
  | x :: l => .cons (.int x) (any_intsN l)
theorem any_deedsN {N : Addr → Prop} {H : Hp} (nt : ∀ b xs, H b = some (.tup xs) → ¬ N b) : ∀ {rs : List Addr} {ds : List Deed}, DsAt H rs ds → AnyAll N H (rs.map V.ref) (ds.map deedD)
  | _, _, .nil => .nil
  | _, _, .cons h t => .cons (.tup (nt _ _ h) h (.cons (.str _) (any_intsN _))) (any_deedsN nt t)
theorem any_rowN {N : Addr → Prop} {H : Hp} {R : Addr} {m o : Int} {ds : List Deed} (nt : ∀ b xs, H b = some (.tup xs) → ¬ N b) (h : RowAt H R m ds o) : AnyAt N H (.ref R) (rowD m ds o) := by
  obtain ⟨D, rs, e1, e2, e3⟩ := h
  exact .tup (nt _ _ e1) e1 (.cons (.int m) (.cons (.tup (nt _ _ e2) e2 (any_deedsN nt e3)) (.cons (.int o) .nil)))
abbrev NT (tp : Addr) : Addr → Prop := fun b => b = tp
abbrev NC (tp C : Addr) : Addr → Prop := fun b => b = tp ∨ b = C
theorem ntC {tp C : Addr} {H : Hp} {l : List V} (t : TP H tp) (e : H C = some (.lst l)) : ∀ b xs, H b = some (.tup xs) → ¬ NC tp C b := fun b xs eb z => by
  obtain ⟨x, y, et⟩ := t
  rcases z with rfl | rfl
  · rw [et] at eb; cases eb
  · rw [e] at eb; cases eb
theorem all_app {N : Addr → Prop} {H : Hp} : ∀ {xs ys : List V} {ds es : List PyData}, AnyAll N H xs ds → AnyAll N H ys es → AnyAll N H (xs ++ ys) (ds ++ es)
  | _, _, _, _, .nil, h => h
  | _, _, _, _, .cons x t, h => .cons x (all_app t h)
theorem all_more {N N' : Addr → Prop} {H : Hp} (s : ∀ b u, N' b → H b = some u → N b) : ∀ {vs : List V} {ds : List PyData}, AnyAll N H vs ds → AnyAll N' H vs ds
  | _, _, .nil => .nil
  | _, _, .cons h t => .cons (any_more s h) (all_more s t)
theorem same_but7 {N : Addr → Prop} {H H' : Hp} (s : Same H H') : ButN N H H' := fun b u _ e => s b u e
theorem fitL_short (m : Nat) (ds : List Deed) (o : Int) : (fitL m ds o).length ≤ 2 * ds.length := by
  unfold fitL
  rw [List.length_append, List.length_map, List.length_map]
  have a := List.length_filter_le (fun i => !hadB ds o ((m + i : Nat) : Int)) (List.range ds.length)
  have b := List.length_filter_le (fun i => hadB ds o ((m + i : Nat) : Int) && !decide (frs m ds (m + i) = m + i)) (List.range ds.length)
  rw [List.length_range] at a b
  omega
def spMa : Sp := fun vs H Q _ => ∃ (tp R : Addr) (m : Nat) (o : Int) (ds : List Deed), vs = [.ref tp, .ref R] ∧ RowAt H R m ds o ∧ RowOk m ds o ∧ TP H tp ∧
  ∀ H' C l, AnyAt (NT tp) H' (.ref C) (.list l) → l.length ≤ 106 → (∀ d ∈ l, GStep m d) → TP H' tp → But tp H H' → Q (.ref C) H'
set_option maxHeartbeats 4000000 in
theorem ok_ma {f fX fG fQ : Addr} {fd fdX fdG fdQ : FuncData} {k : Nat} (F : Fun K "_law_made" "_law_made" s_law_made f fd)
    (GX : FnOk P w K mg base CX0 (k + 5) fX fdX ["row"] spFi) (kX : PySem.W.keepIn K (.ref fX) = true) (bX : Binds K fdX ["row"] []) (gX : mg "_law_fitting" = some (.ref fX))
    (GG : FnOk P w K mg base CX0 (k + 1) fG fdG ["tape", "many"] spDigit) (kG : PySem.W.keepIn K (.ref fG) = true) (bG : Binds K fdG ["tape", "many"] []) (gG : mg "_law_digit" = some (.ref fG))
    (GQ : FnOk P w K mg base CX0 (k + 5) fQ fdQ ["row", "rule", "value"] spPb) (kQ : PySem.W.keepIn K (.ref fQ) = true) (bQ : Binds K fdQ ["row", "rule", "value"] []) (gQ : mg "_law_put" = some (.ref fQ))
    (mn : mg "len" = none) : FnOk P w K mg base CX0 (k + 6) f fd ["tape", "row"] spMa := by
  refine F.ok sc_law_made (fun vs H Q E h => ?_) (fun cdv A outer s H vs Q E hr h => ?_)
  · obtain ⟨tp, R, m, o, ds, rfl, _⟩ := h
    rfl
  · obtain ⟨tp, R, m, o, ds, rfl, hrow, ok, tt, q⟩ := h
    have R1 := hr.mono (show k + 1 ≤ k + 5 by omega)
    have hu65 := hu65_of hr
    refine ⟨_, pss_cons (ps_set (i := 2) sc_law_made.nd rfl (.inl rfl) (pe_lstN pa_nil))
    (pss_cons (ps_set (i := 3) sc_law_made.nd rfl (.inl rfl) (pe_call GX hr (by rfl) gX kX bX .nil pass0 (pa_cons (pv 1) pa_nil)))
    (pss_cons (ps_while PassesOwn.never (PW.pt (pw_and (pt_cmpR (op_neL0 (Nat.lt_of_succ_lt hu65)) (pv 3) (pe_lst pa_nil) (nomark _)) (pw_and1 (pt_cmpR op_gt (pe_call GG R1 (by rfl) gG kG bG .nil pass0 (pa_cons (pv 0) (pa_cons pe_int pa_nil))) pe_int (nomark _)))))
    (pss_cons (ps_asg (pe_ix ix_list (pv 3) (pe_call GG R1 (by rfl) gG kG bG .nil pass0 (pa_cons (pv 0) (pa_cons (pe_callB call_len_seq (by rfl) mn PySem.boot_len (pa_cons (pv 3) pa_nil)) pa_nil))) (fun _ _ => rfl)) (pg_tup rfl (pgs_cons (pg_name (i := 4) sc_law_made.nd rfl (.inl rfl)) (pgs_cons (pg_name (i := 5) sc_law_made.nd rfl (.inl rfl)) pgs_nil))))
    (pss_cons (ps_set (i := 1) sc_law_made.nd rfl (.inl rfl) (pe_call GQ hr (by rfl) gQ kQ bQ .nil pass0 (pa_cons (pv 1) (pa_cons (pv 4) (pa_cons (pv 5) pa_nil)))))
    (pss_cons (ps_expr (pe_bm PySem.F.plainAttrs_list PySem.F.slot_list_append PySem.F.type_list_append mt_append (pv 2) (pa_cons (pe_tup (pa_cons (pv 4) (pa_cons (pv 5) (pa_cons (pv 1) pa_nil)))) pa_nil)))
    (pss_one (ps_set (i := 3) sc_law_made.nd rfl (.inl rfl) (pe_call GX hr (by rfl) gX kX bX .nil pass0 (pa_cons (pv 1) pa_nil))))))))
    (pss_one (ps_ret (pv 2))))), ?_⟩
    refine ⟨(by show 0 ≤ sizeLine; decide), fun Ch hCh nCs => ?_⟩
    have sC := same_new (o := .lst []) hCh
    have nCt : Ch ≠ tp := tt.ne_new hCh
    refine ⟨.ref R, rfl, R, m, o, ds, rfl, (Same.tups sC).row hrow, ok, fun H1 Fi fs s1 nFi eFi hfs => ?_⟩
    have nCF : Fi ≠ Ch := fun z => by rw [z, upd_same] at nFi; cases nFi
    have w0 := wgt_at ok
    let Inv : Nat → List (Option V) → Hp → Prop := fun n σ H3 => ∃ (y4 y5 : Option V) (R' Fi : Addr) (fs : List Addr) (xs : List V) (l : List PyData) (ds' : List Deed) (o' : Int), σ = [some (.ref tp), some (.ref R'), some (.ref Ch), some (.ref Fi), y4, y5] ∧ RowAt H3 R' m ds' o' ∧ RowOk m ds' o' ∧ H3 Ch = some (.lst xs) ∧ AnyAll (NC tp Ch) H3 xs l ∧ (∀ d ∈ l, GStep m d) ∧ (l.length : Int) + wgt ds' o' ≤ 106 ∧ Fi ≠ Ch ∧ Fi ≠ tp ∧ H3 Fi = some (.lst (fs.map V.ref)) ∧ FtAt H3 fs (fitL m ds' o') ∧ TP H3 tp ∧ But tp H H3 ∧ n = (wgt ds' o').toNat
    have tt1 := tt.same (sC.trans s1)
    refine ⟨Inv, ⟨_, none, none, R, Fi, fs, [], [], ds, o, rfl, (Same.tups (sC.trans s1)).row hrow, ok, s1 _ _ upd_same, .nil, (fun _ z => nomatch z), by simp only [List.length_nil]; omega, nCF, (tt.same sC).ne_new nFi, eFi, hfs, tt1, But.same (sC.trans s1), rfl⟩, fun n σ H3 hp => ?_⟩
    obtain ⟨y4, y5, R', Fi, fs, xs, l, ds', o', rfl, hrow3, ok3, eC, hxs, hl, hw, nFC, nFt, eFi, hfs, t3, b3, rfl⟩ := hp
    have done : ∀ H4, TP H4 tp → But tp H3 H4 → Q (.ref Ch) H4 := fun H4 t4 b4 => by
      have eC4 := b4 _ _ nCt eC
      have st : ButN (NC tp Ch) H3 H4 := fun c u nc e => b4 c u (fun z => nc (.inl z)) e
      refine q H4 Ch l (.lst (fun z => nCt z) nCs eC4 (all_more (fun b u n _ => .inl n) (all_stay st hxs))) ?_ hl t4 (b3.trans b4)
      have := (wgt_at ok3).1
      omega
    refine ⟨.ref Fi, rfl, (by show 0 ≤ sizeLine; decide), fun Z hZ => ?_⟩
    have sZ := same_new (o := .lst []) hZ
    have eZ : upd H3 Z (.lst []) Z = some (.lst []) := upd_same
    generalize upd H3 Z (.lst []) = H4 at sZ eZ
    have t4 := t3.same sZ
    refine ⟨Fi, Z, _, rfl, rfl, sZ _ _ eFi, eZ, _, rfl, ite2 (fun e => ?_) (fun e => ?_)⟩
    · refine ⟨.ref tp, rfl, tp, 8, rfl, by decide, by decide, t4, fun H5 z z0 z1 t5 b5 => ⟨z, 0, rfl, rfl, _, rfl, ite2 (fun e2 => ?_) (fun _ => ?_)⟩⟩
      · have e1 : fs ≠ [] := fun z => by rw [z] at e; simp at e
        have eFi5 := b5 _ _ nFt (sZ _ _ eFi)
        have b35 : But tp H3 H5 := (But.same sZ).trans b5
        have hfs5 := ft_stay (b35.tape t3) hfs
        have hrow5 := (b35.tape t3).row hrow3
        have eC5 := b35 _ _ nCt eC
        have hxs5 : AnyAll (NC tp Ch) H5 xs l := all_stay (fun c u nc e => b35 c u (fun z => nc (.inl z)) e) hxs
        refine ⟨fun σ' H' => ∃ m', m' < (wgt ds' o').toNat ∧ Inv m' σ' H', fun σ' H' z => z, ?_⟩
        have fl : 0 < fs.length := List.length_pos_iff.mpr e1
        have fl9 : fs.length ≤ 900 := by
          have := awLen hfs
          have := fitL_short m ds' o'
          have := ok3.len
          omega
        refine ⟨.ref Fi, rfl, .ref tp, rfl, .ref Fi, rfl, Fi, _, rfl, .inl (.inl (.inl eFi5)), tp, _, rfl, by rw [List.length_map]; omega, by rw [List.length_map]; omega, t5, fun H6 i i0 i1 t6 b6 => ?_⟩
        rw [List.length_map] at i1
        obtain ⟨j, rfl⟩ := Int.eq_ofNat_of_zero_le i0
        have jl : j < fs.length := by omega
        obtain ⟨pe, hpe, efj⟩ := awGet hfs5 (List.getElem?_eq_getElem jl)
        have he := List.mem_of_getElem? hpe
        have eFi6 := b6 _ _ nFt eFi5
        have ef6 := b6.tape t5 _ _ efj
        have hrow6 := (b6.tape t5).row hrow5
        have eC6 := b6 _ _ nCt eC5
        have hxs6 : AnyAll (NC tp Ch) H6 xs l := all_stay (fun c u nc e => b6 c u (fun z => nc (.inl z)) e) hxs5
        refine ⟨Fi, _, ((j : Nat) : Int), .ref fs[j], rfl, rfl, .inl (.inl eFi6), atI_nat (by rw [List.getElem?_map, List.getElem?_eq_getElem jl]; rfl), fs[j], [.str pe.1, .int pe.2], rfl, .inl (.inl ef6), rfl, .str pe.1, [.int pe.2], rfl, .int pe.2, [], rfl, rfl, ?_⟩
        refine ⟨.ref R', rfl, .str pe.1, rfl, .int pe.2, rfl, R', m, o', pe, ds', rfl, hrow6, ok3, he, fun H7 R2 s7 hrow7 => ?_⟩
        have eC7 := s7 _ _ eC6
        have hxs7 := all_stay (same_but7 s7) hxs6
        have ok7 := put_ok ok3 he
        refine ⟨.ref Ch, rfl, .inl ⟨rfl, _, .inl (.inl eC7)⟩, .str pe.1, rfl, .int pe.2, rfl, .ref R2, rfl, (by show 3 ≤ sizeLine; decide), fun T hT => ?_⟩
        have sT := same_new (o := .tup [.str pe.1, .int pe.2, .ref R2]) hT
        have eCT := sT _ _ eC7
        have lx := all_len hxs
        have wp := put_wgt ok3 he
        have w3 := (wgt_at ok3).1
        have w4 := (wgt_at ok7).1
        refine ⟨Ch, _, _, rfl, rfl, eCT, small1000 (by omega), ?_⟩
        obtain ⟨H8, hH8⟩ : ∃ H8, H8 = upd (upd H7 T (.tup [.str pe.1, .int pe.2, .ref R2])) Ch (.lst (xs ++ [V.ref T])) := ⟨_, rfl⟩
        have t7 := t6.same s7
        have t8 : TP H8 tp := by
          rw [hH8]
          exact (t7.same sT).upd nCt
        have eC8 : H8 Ch = some (.lst (xs ++ [V.ref T])) := by rw [hH8]; exact upd_same
        have st8 : ButN (NC tp Ch) H7 H8 := fun c u nc e => by
          rw [hH8, upd_ne (fun z => nc (.inr z))]
          exact sT _ _ e
        have nTC : T ≠ Ch := fun z => by rw [z, eC7] at hT; cases hT
        have eT8 : H8 T = some (.tup [.str pe.1, .int pe.2, .ref R2]) := by
          rw [hH8, upd_ne nTC]
          exact upd_same
        have tF : TupsStay H7 H8 := fun b xs e => by
          rw [hH8, upd_ne (fun z => by rw [z, eC7] at e; cases e)]
          exact sT _ _ e
        have hrow8 := tF.row hrow7
        have nt8 := ntC t8 eC8
        have hxs8 : AnyAll (NC tp Ch) H8 (xs ++ [V.ref T]) (l ++ [stepD m ds' o' pe]) := all_app (all_stay st8 hxs7) (.cons (.tup (nt8 _ _ eT8) eT8 (.cons (.str _) (.cons (.int _) (.cons (any_rowN nt8 hrow8) .nil)))) .nil)
        have b8 : But tp H H8 := fun c u nc e => by
          rw [hH8, upd_ne (ne_of_none e hCh)]
          exact sT _ _ (s7 _ _ (b6 _ _ nc (b35 _ _ nc (b3 _ _ nc e))))
        rw [← hH8]
        refine ⟨.ref R2, rfl, R2, m, _, _, rfl, hrow8, ok7, fun H9 Fi9 fs9 s9 nFi9 eFi9 hfs9 => ?_⟩
        obtain ⟨i, hi, ei⟩ := fitL_mem he
        have m3 := ok3.m3
        have l8 := ok3.len
        refine ⟨_, ?_, _, _, R2, Fi9, fs9, _, _, _, _, rfl, (Same.tups s9).row hrow8, ok7, s9 _ _ eC8, all_stay (same_but7 s9) hxs8, fun d hd => ?_, ?_, (fun z => by rw [z, eC8] at nFi9; cases nFi9), t8.ne_new nFi9, eFi9, hfs9, t8.same s9, b8.trans (But.same s9), rfl⟩
        · omega
        · rcases List.mem_append.mp hd with hd | hd
          · exact hl d hd
          · rw [List.mem_singleton.mp hd]
            exact ⟨pe, _, _, fitL_wd m ds' o' pe he, by omega, by omega, ok7, rfl⟩
        · rw [List.length_append]
          show ((l.length + 1 : Nat) : Int) + _ ≤ 106
          omega
      · exact ⟨.ref Ch, rfl, done H5 t5 ((But.same sZ).trans b5)⟩
    · exact ⟨.ref Ch, rfl, done H4 t4 (But.same sZ)⟩
/-! ### k56: what tells a thing, whenever it is evaluated -/
structure NGd (N : Addr → Prop) (tp : Addr) (H : Hp) : Prop where
  t : N tp
  tape : TP H tp
  lst : ∀ b, N b → ∃ l, H b = some (.lst l)
section ngd
variable {N : Addr → Prop} {tp p : Addr} {H H' : Hp}
theorem NGd.free (h : NGd N tp H) (e : H p = none) : ¬ N p := fun n => by
  obtain ⟨l, e2⟩ := h.lst p n
  rw [e] at e2
  cases e2
theorem NGd.tup (h : NGd N tp H) {xs : List V} (e : H p = some (.tup xs)) : ¬ N p := fun n => by
  obtain ⟨l, e2⟩ := h.lst p n
  rw [e] at e2
  cases e2
theorem NGd.but (h : NGd N tp H) (b : But tp H H') (t : TP H' tp) : NGd N tp H' := ⟨h.t, t, fun c n => by
  by_cases e : c = tp
  · obtain ⟨x, y, et⟩ := t
    exact ⟨_, e ▸ et⟩
  · obtain ⟨l, el⟩ := h.lst c n
    exact ⟨l, b c _ e el⟩⟩
theorem NGd.same (h : NGd N tp H) (s : Same H H') : NGd N tp H' := h.but (But.same s) (h.tape.same s)
theorem NGd.st (h : NGd N tp H) (b : But tp H H') : ButN N H H' := fun c u n e => b c u (fun z => n (z ▸ h.t)) e
theorem ngd_t (t : TP H tp) : NGd (NT tp) tp H := ⟨rfl, t, fun b n => by
  obtain ⟨x, y, e⟩ := t
  exact ⟨_, (show b = tp from n) ▸ e⟩⟩
theorem ngd_c (t : TP H tp) {l : List V} (e : H p = some (.lst l)) : NGd (NC tp p) tp H := ⟨.inl rfl, t, fun b n => by
  rcases n with rfl | rfl
  · obtain ⟨x, y, e⟩ := t
    exact ⟨_, e⟩
  · exact ⟨_, e⟩⟩
end ngd
theorem step_seq {t u : TS} {D : Ends} {σ : L2.St} {H : Hp} (h : t { D with nx := u D } σ H) : tSeq t u D σ H := h
theorem step_asg {te : TE} {g : TG} {D : Ends} {σ : L2.St} {H : Hp} (h : te σ H fun x H1 => g x σ H1 D.nx) : tAsg te g D σ H := h
theorem step_cons {te : TE} {tr : TA} {σ : L2.St} {H : Hp} {Q : List V → Hp → Prop} (h : te σ H fun x H1 => tr σ H1 fun xs H2 => Q (x :: xs) H2) : tCons te tr σ H Q := h
/-- a part that is told as a whole: the unifier stops here -/
@[irreducible] def tK (t : TE) (σ : L2.St) (H : Hp) (Q : VK) : Prop := t σ H Q
theorem tK_eq (t : TE) : tK t = t := by unfold tK; rfl
theorem pe_K {X : Cx} {e : Expr} {t : TE} (h : PE X e t) : PE X e (tK t) := by rw [tK_eq]; exact h
def MkE (N : Addr → Prop) (tp : Addr) (σ : L2.St) (H0 : Hp) (t : TE) (P : PyData → Prop) : Prop := ∀ H Q, But tp H0 H → NGd N tp H → (∀ H' v d, But tp H H' → NGd N tp H' → AnyAt N H' v d → P d → Q v H') → t σ H Q
def MkA (N : Addr → Prop) (tp : Addr) (σ : L2.St) (H0 : Hp) (t : TA) (R : List PyData → Prop) : Prop := ∀ H Q, But tp H0 H → NGd N tp H → (∀ H' vs ds, But tp H H' → NGd N tp H' → AnyAll N H' vs ds → R ds → Q vs H') → t σ H Q
section mk
variable {N : Addr → Prop} {tp : Addr} {σ : L2.St} {H0 : Hp} {t : TE} {u : TA} {P P' : PyData → Prop} {R R' : List PyData → Prop} {d : PyData} {ds : List PyData}
theorem MkE.mono (h : MkE N tp σ H0 t P) (f : ∀ d, P d → P' d) : MkE N tp σ H0 t P' := fun H Q b n q => h H Q b n fun H' v d b' n' a p => q H' v d b' n' a (f d p)
theorem MkA.mono (h : MkA N tp σ H0 u R) (f : ∀ d, R d → R' d) : MkA N tp σ H0 u R' := fun H Q b n q => h H Q b n fun H' v d b' n' a p => q H' v d b' n' a (f d p)
theorem mk_run (h : MkE N tp σ H0 t P) {H : Hp} {Q : VK} (b : But tp H0 H) (n : NGd N tp H) (q : ∀ H' v d, But tp H H' → NGd N tp H' → AnyAt N H' v d → P d → Q v H') : tK t σ H Q := by rw [tK_eq]; exact h H Q b n q
theorem mk_int (i : Int) : MkE N tp σ H0 (tC (.int i)) (· = .int i) := fun H Q _ n q => q H _ _ (But.refl tp H) n (.int i) rfl
theorem mk_bl (b : Bool) : MkE N tp σ H0 (tC (.bl b)) (· = .bool b) := fun H Q _ n q => q H _ _ (But.refl tp H) n (.bl b) rfl
theorem mk_str (x : Str) : MkE N tp σ H0 (tC (.str x)) (· = .str x) := fun H Q _ n q => q H _ _ (But.refl tp H) n (.str x) rfl
theorem mk_non : MkE N tp σ H0 (tC .non) (· = .none) := fun H Q _ n q => q H _ _ (But.refl tp H) n .non rfl
theorem mk_var {i : Nat} {v : V} (nt : N tp) (e : σ[i]? = some (some v)) (h : AnyAt N H0 v d) : MkE N tp σ H0 (tVar i) (· = d) := fun H Q b n q => ⟨v, e, q H v d (But.refl tp H) n (any_stay (fun c u z e => b c u (fun y => z (y ▸ nt)) e) h) rfl⟩
theorem mk_nil : MkA N tp σ H0 tNil (· = []) := fun H Q _ n q => q H [] [] (But.refl tp H) n .nil rfl
/-- one after another, each told exactly -/
theorem mk_cons (h : MkE N tp σ H0 t (· = d)) (g : MkA N tp σ H0 u (· = ds)) : MkA N tp σ H0 (tCons t u) (· = d :: ds) := fun H Q b n q => h H _ b n fun H1 v d1 b1 n1 a1 p1 => g H1 _ (b.trans b1) n1 fun H2 vs ds2 b2 n2 a2 p2 => q H2 _ _ (b1.trans b2) n2 (.cons (any_stay (n1.st b2) a1) a2) (by rw [p1, p2])
/-- one after another, each of a kind -/
theorem mk_consP {k : Nat} (h : MkE N tp σ H0 t P) (g : MkA N tp σ H0 u (fun ds => ds.length = k ∧ ∀ d ∈ ds, P d)) : MkA N tp σ H0 (tCons t u) (fun ds => ds.length = k + 1 ∧ ∀ d ∈ ds, P d) := fun H Q b n q => h H _ b n fun H1 v d1 b1 n1 a1 p1 => g H1 _ (b.trans b1) n1 fun H2 vs ds2 b2 n2 a2 p2 => q H2 _ _ (b1.trans b2) n2 (.cons (any_stay (n1.st b2) a1) a2) ⟨by rw [List.length_cons, p2.1], fun d hd => by
  rcases List.mem_cons.mp hd with rfl | hd
  · exact p1
  · exact p2.2 d hd⟩
theorem mk_nilP : MkA N tp σ H0 tNil (fun ds => ds.length = 0 ∧ ∀ d ∈ ds, P d) := fun H Q _ n q => q H [] [] (But.refl tp H) n .nil ⟨rfl, fun _ z => nomatch z⟩
theorem mk_tup (g : MkA N tp σ H0 u (· = ds)) (l : ds.length ≤ 30000) : MkE N tp σ H0 (tTup u) (· = .tuple ds) := fun H Q b n q => g H _ b n fun H1 vs ds1 b1 n1 a1 p1 => ⟨by rw [all_len a1, p1, sizeLine_eq]; omega, fun p hp => by
  have s := same_new (o := .tup vs) hp
  exact q _ _ _ (b1.trans (But.same s)) (n1.same s) (.tup (n1.free hp) upd_same (all_stay (same_but7 s) a1)) (by rw [p1])⟩
theorem mk_lst (g : MkA N tp σ H0 u (· = ds)) (l : ds.length ≤ 30000) : MkE N tp σ H0 (tLstN u) (· = .list ds) := fun H Q b n q => g H _ b n fun H1 vs ds1 b1 n1 a1 p1 => ⟨by rw [all_len a1, p1, sizeLine_eq]; omega, fun p hp ns => by
  have s := same_new (o := .lst vs) hp
  exact q _ _ _ (b1.trans (But.same s)) (n1.same s) (.lst (n1.free hp) ns upd_same (all_stay (same_but7 s) a1)) (by rw [p1])⟩
theorem mk_dict : MkE N tp σ H0 tDNewK (· = .dict []) := fun H Q b n q => fun p hp => by
  have s := same_new (o := .dK []) hp
  exact q _ _ _ (But.same s) (n.same s) (.dic (n.free hp) upd_same) rfl
theorem any_tup2 {H : Hp} {x : V} {ds : List PyData} (h : AnyAt N H x (.tuple ds)) : ∃ a xs, x = .ref a ∧ ¬ N a ∧ H a = some (.tup xs) ∧ AnyAll N H xs ds := by
  cases h with
  | tup n e hs => exact ⟨_, _, rfl, n, e, hs⟩
theorem all_take : ∀ {H : Hp} {xs : List V} {ds : List PyData} (k : Nat), AnyAll N H xs ds → AnyAll N H (xs.take k) (ds.take k)
  | _, _, _, 0, _ => by rw [List.take_zero, List.take_zero]; exact .nil
  | _, _, _, _ + 1, .nil => .nil
  | _, _, _, k + 1, .cons x t => .cons x (all_take k t)
theorem all_drop : ∀ {H : Hp} {xs : List V} {ds : List PyData} (k : Nat), AnyAll N H xs ds → AnyAll N H (xs.drop k) (ds.drop k)
  | _, _, _, 0, h => h
  | _, _, _, _ + 1, .nil => .nil
  | _, _, _, k + 1, .cons _ t => all_drop k t
/-- t + u, of tuples -/
theorem mk_cat {t2 : TE} {ds es : List PyData} (h : MkE N tp σ H0 t (· = .tuple ds)) (g : MkE N tp σ H0 t2 (· = .tuple es)) (l : ds.length + es.length ≤ 30000) : MkE N tp σ H0 (tOp rCatZ t t2) (· = .tuple (ds ++ es)) := fun H Q b n q => h H _ b n fun H1 v d1 b1 n1 a1 p1 => g H1 _ (b.trans b1) n1 fun H2 v2 d2 b2 n2 a2 p2 => by
  subst p1
  subst p2
  have a1 := any_stay (n1.st b2) a1
  obtain ⟨c1, xs, rfl, m1, e1, h1⟩ := any_tup2 a1
  obtain ⟨c2, ys, rfl, m2, e2, h2⟩ := any_tup2 a2
  refine ⟨c1, c2, xs, ys, rfl, rfl, e1, e2, by rw [all_len h1, all_len h2, sizeLine_eq]; omega, fun p H3 s3 e => ?_⟩
  have n3 := n2.same s3
  exact q H3 _ _ ((b1.trans b2).trans (But.same s3)) n3 (.tup (n3.tup e) e (all_stay (same_but7 s3) (all_app h1 h2))) rfl
/-- it tells a number, and nothing else happens -/
def TInt (σ : L2.St) (t : TE) (k : Int) : Prop := ∀ H Q, Q (.int k) H → t σ H Q
theorem ti_c (k : Int) : TInt σ (tC (.int k)) k := fun H Q q => q
theorem ti_var {i : Nat} {k : Int} (e : σ[i]? = some (some (.int k))) : TInt σ (tVar i) k := fun H Q q => ⟨_, e, q⟩
theorem mk_ti {k : Int} (h : TInt σ t k) : MkE N tp σ H0 t (· = .int k) := fun H Q _ n q => h H _ (q H _ _ (But.refl tp H) n (.int k) rfl)
theorem mk_take {te : TE} {i : Int} {k : Nat} (hi : TInt σ te i) (ei : i = (k : Int)) {ds : List PyData} (h : MkE N tp σ H0 t (· = .tuple ds)) : MkE N tp σ H0 (tSl rSlZ t tNoPart (tPart te)) (· = .tuple (ds.take k)) := fun H Q b n q => h H _ b n fun H1 v d1 b1 n1 a1 p1 => by
  subst p1
  subst ei
  obtain ⟨c1, xs, rfl, m1, e1, h1⟩ := any_tup2 a1
  refine hi H1 _ ⟨_, rfl, ?_⟩
  refine ⟨c1, xs, rfl, e1, fun p H3 s3 e => ?_⟩
  rw [cut_take] at e
  have n3 := n1.same s3
  exact q H3 _ _ (b1.trans (But.same s3)) n3 (.tup (n3.tup e) e (all_stay (same_but7 s3) (all_take k h1))) rfl
theorem mk_drop {te : TE} {i : Int} {k : Nat} (hi : TInt σ te i) (ei : i = (k : Int)) {ds : List PyData} (h : MkE N tp σ H0 t (· = .tuple ds)) : MkE N tp σ H0 (tSl rSlZ t (tPart te) tNoPart) (· = .tuple (ds.drop k)) := fun H Q b n q => h H _ b n fun H1 v d1 b1 n1 a1 p1 => by
  subst p1
  subst ei
  obtain ⟨c1, xs, rfl, m1, e1, h1⟩ := any_tup2 a1
  refine hi H1 _ ⟨_, rfl, ?_⟩
  refine ⟨c1, xs, rfl, e1, fun p H3 s3 e => ?_⟩
  rw [cut_drop] at e
  have n3 := n1.same s3
  exact q H3 _ _ (b1.trans (But.same s3)) n3 (.tup (n3.tup e) e (all_stay (same_but7 s3) (all_drop k h1))) rfl
theorem ti_add1 {i : Nat} {k : Int} (e : σ[i]? = some (some (.int k))) : TInt σ (tOp (rI0 fun i j => .int (i + j)) (tVar i) (tC (.int 1))) (k + 1) := fun H Q q => ⟨_, e, k, 1, rfl, rfl, q⟩
theorem mk_ixT {K : PySem.W.Frag} {ti : TE} {j : Nat} {ds : List PyData} (h : MkE N tp σ H0 t (· = .tuple ds)) (hi : TInt σ ti (j : Int)) (e : ds[j]? = some d) : MkE N tp σ H0 (tOp (rIxT K) t ti) (· = d) := fun H Q b n q => h H _ b n fun H1 v d1 b1 n1 a1 p1 => by
  subst p1
  obtain ⟨c1, xs, rfl, m1, e1, h1⟩ := any_tup2 a1
  refine hi H1 _ ?_
  have jl : j < xs.length := by rw [all_len h1]; exact (List.getElem?_eq_some_iff.mp e).1
  obtain ⟨d2, e2, a2⟩ := all_get h1 (List.getElem?_eq_getElem jl)
  rw [e] at e2
  obtain rfl := Option.some.inj e2
  exact ⟨c1, xs, (j : Int), xs[j], rfl, rfl, SqT.of e1, atI_nat (List.getElem?_eq_getElem jl), q H1 _ _ b1 n1 a2 rfl⟩
/-- list(t), at no address of the machine's own -/
def rListN (K : PySem.W.Frag) : List V → Hp → VK → Prop := fun xs H Q => ∃ p ys, xs = [.ref p] ∧ SqT K H p ys ∧ ∀ l, H l = none → l ≠ sysModules → Q (.ref l) (upd H l (.lst ys))
theorem call_listN {X : Cx} : CallR X (.type "list") (rListN X.K) := by
  intro pins s σ H xs us Q I r h
  obtain ⟨p, ys, rfl, hq, q⟩ := h
  obtain ⟨u, rfl, rx⟩ := vals1 r
  cases rx
  obtain ⟨its, r', pl, hz⟩ := I.tuple hq
  have hlen := r'.length
  have big := I.big
  obtain ⟨o, ho, hc, n, hd⟩ := pl
  exact call_list_seq p (.inr rfl) ho hc hd (fun h' c' kp e => ⟨.ref s.heap.objs.size, _, I.laid (t' := s.toks) kp (Nat.le_refl _) (show ObjOk X.prog X.w _ h' _ (.lst ys) from ⟨hz, its, c', r', e⟩), rfl, q _ (I.hok.fresh (Nat.le_refl _)) (Nat.ne_of_gt big)⟩) (by simp only [List.size_toArray] <;> omega)
theorem mk_list {K : PySem.W.Frag} {ds : List PyData} (h : MkE N tp σ H0 t (· = .tuple ds)) : MkE N tp σ H0 (tCB (rListN K) (tCons t tNil)) (· = .list ds) := fun H Q b n q => h H _ b n fun H1 v d1 b1 n1 a1 p1 => by
  subst p1
  obtain ⟨c1, xs, rfl, m1, e1, h1⟩ := any_tup2 a1
  refine ⟨c1, xs, rfl, SqT.of e1, fun p hp ns => ?_⟩
  have s := same_new (o := .lst xs) hp
  exact q _ _ _ (b1.trans (But.same s)) (n1.same s) (.lst (n1.free hp) ns upd_same (all_stay (same_but7 s) h1)) rfl
/-- [one, other][int(test)] -/
theorem mk_pick {K : PySem.W.Frag} {t1 t2 ti : TE} {P : PyData → Prop} {d1 d2 : PyData} (h1 : MkE N tp σ H0 t1 (· = d1)) (h2 : MkE N tp σ H0 t2 (· = d2)) (hi : ∃ c : Bool, TInt σ ti (if c then 1 else 0) ∧ P (if c then d2 else d1)) : MkE N tp σ H0 (tOp (rIxL K) (tLst (tCons t1 (tCons t2 tNil))) ti) P := fun H Q b n q => h1 H _ b n fun H1 v d1' b1 n1 a1 p1 => h2 H1 _ (b.trans b1) n1 fun H2 v2 d2' b2 n2 a2 p2 => by
  subst p1
  subst p2
  refine ⟨(by show 2 ≤ sizeLine; decide), fun p hp => ?_⟩
  have s := same_new (o := .lst [v, v2]) hp
  obtain ⟨c, hc, hP⟩ := hi
  refine hc _ _ ?_
  have b3 := (b1.trans b2).trans (But.same s)
  have n3 := n2.same s
  cases c with
  | true => exact ⟨p, _, 1, v2, rfl, rfl, .inl (.inl upd_same), atI_nat (j := 1) rfl, q _ v2 _ b3 n3 (any_same s a2) hP⟩
  | false => exact ⟨p, _, 0, v, rfl, rfl, .inl (.inl upd_same), atI_nat (j := 0) rfl, q _ v _ b3 n3 (any_stay (n3.st (But.refl tp _)) (any_same s (any_stay (n1.st b2) a1))) hP⟩
end mk
/-! ### k56: how much is shown; _law_odd_row -/
structure SZ (b k : Nat) (d : PyData) : Prop where
  lk : RLk d
  bk : d.bulk ≤ b
  dp : d.depth ≤ k
structure SZL (b k : Nat) (ds : List PyData) : Prop where
  lk : RLkAll ds
  bk : PyData.bulkAll ds ≤ b
  dp : PyData.depthAll ds ≤ k
theorem SZ.mono {b b' k k' : Nat} {d : PyData} (h : SZ b k d) (hb : b ≤ b') (hk : k ≤ k') : SZ b' k' d := ⟨h.lk, Nat.le_trans h.bk hb, Nat.le_trans h.dp hk⟩
theorem SZL.mono {b b' k k' : Nat} {d : List PyData} (h : SZL b k d) (hb : b ≤ b') (hk : k ≤ k') : SZL b' k' d := ⟨h.lk, Nat.le_trans h.bk hb, Nat.le_trans h.dp hk⟩
theorem szl_nil {k : Nat} : SZL 0 k [] := ⟨.nil, by simp only [PyData.bulkAll, Nat.le_refl], by simp only [PyData.depthAll, Nat.zero_le]⟩
theorem szl_cons {b1 b2 k : Nat} {d : PyData} {ds : List PyData} (h : SZ b1 k d) (t : SZL b2 k ds) : SZL (b1 + b2 + 1) k (d :: ds) := by
  obtain ⟨h1, h2, h3⟩ := h
  obtain ⟨t1, t2, t3⟩ := t
  refine ⟨.cons h1 t1, ?_, ?_⟩
  · simp only [PyData.bulkAll]
    omega
  · simp only [PyData.depthAll]
    omega
theorem szl_cut {b k : Nat} {d : PyData} {ds : List PyData} (h : SZL b k (d :: ds)) : ∃ b1 b2, SZ b1 k d ∧ SZL b2 k ds ∧ b1 + b2 + 1 ≤ b := by
  obtain ⟨h1, h2, h3⟩ := h
  simp only [PyData.bulkAll] at h2
  simp only [PyData.depthAll] at h3
  cases h1 with
  | cons a t => exact ⟨d.bulk, PyData.bulkAll ds, ⟨a, Nat.le_refl _, by omega⟩, ⟨t, Nat.le_refl _, by omega⟩, by omega⟩
theorem szl_app {k : Nat} : ∀ {b1 b2 : Nat} {xs ys : List PyData}, SZL b1 k xs → SZL b2 k ys → SZL (b1 + b2) k (xs ++ ys)
  | b1, b2, [], ys, _, h => h.mono (Nat.le_add_left _ _) (Nat.le_refl _)
  | b1, b2, x :: xs, ys, h, g => by
    obtain ⟨c1, c2, h1, h2, h3⟩ := szl_cut h
    exact (szl_cons h1 (szl_app h2 g)).mono (by omega) (Nat.le_refl _)
theorem szl_take {k : Nat} : ∀ {b : Nat} {xs : List PyData} (n : Nat), SZL b k xs → SZL b k (xs.take n)
  | b, xs, 0, _ => by rw [List.take_zero]; exact szl_nil.mono (Nat.zero_le _) (Nat.le_refl _)
  | b, [], n + 1, _ => szl_nil.mono (Nat.zero_le _) (Nat.le_refl _)
  | b, x :: xs, n + 1, h => by
    obtain ⟨c1, c2, h1, h2, h3⟩ := szl_cut h
    exact (szl_cons h1 (szl_take n h2)).mono h3 (Nat.le_refl _)
theorem szl_drop {k : Nat} : ∀ {b : Nat} {xs : List PyData} (n : Nat), SZL b k xs → SZL b k (xs.drop n)
  | b, xs, 0, h => h
  | b, [], n + 1, _ => szl_nil.mono (Nat.zero_le _) (Nat.le_refl _)
  | b, x :: xs, n + 1, h => by
    obtain ⟨c1, c2, h1, h2, h3⟩ := szl_cut h
    exact (szl_drop n h2).mono (by omega) (Nat.le_refl _)
theorem szl_get {b k i : Nat} {xs : List PyData} {x : PyData} (h : SZL b k xs) (e : xs[i]? = some x) : SZ b k x := by
  induction xs generalizing b i with
  | nil => simp at e
  | cons y ys ih =>
    obtain ⟨c1, c2, h1, h2, h3⟩ := szl_cut h
    cases i with
    | zero =>
      simp only [List.getElem?_cons_zero, Option.some.injEq] at e
      exact e ▸ h1.mono (by omega) (Nat.le_refl _)
    | succ i =>
      simp only [List.getElem?_cons_succ] at e
      exact (ih h2 e).mono (by omega) (Nat.le_refl _)
theorem sz_tup {b k : Nat} {xs : List PyData} (h : SZL b k xs) : SZ b (k + 1) (.tuple xs) := ⟨.tup h.lk, by simpa only [PyData.bulk] using h.bk, by have := h.dp; simp only [PyData.depth]; omega⟩
theorem sz_lst {b k : Nat} {xs : List PyData} (h : SZL b k xs) : SZ b (k + 1) (.list xs) := ⟨.lst h.lk, by simpa only [PyData.bulk] using h.bk, by have := h.dp; simp only [PyData.depth]; omega⟩
theorem sz_non : SZ 0 0 .none := ⟨.non, by simp only [PyData.bulk, Nat.le_refl], by simp only [PyData.depth, Nat.le_refl]⟩
theorem sz_bl (b : Bool) : SZ 0 0 (.bool b) := ⟨.bl b, by simp only [PyData.bulk, Nat.le_refl], by simp only [PyData.depth, Nat.le_refl]⟩
theorem sz_int {i : Int} (h0 : 0 ≤ i) (h1 : i < 1000) : SZ 0 0 (.int i) := ⟨(rlk_int h0 h1).1, by simp only [PyData.bulk, Nat.le_refl], by simp only [PyData.depth, Nat.le_refl]⟩
theorem sz_str {x : Str} (h : x ∈ rowStrs) : SZ 5 0 (.str x) := ⟨.str h, by simp only [PyData.bulk]; exact (show ∀ x ∈ rowStrs, x.cps.size ≤ 5 by decide +kernel) x h, by simp only [PyData.depth, Nat.le_refl]⟩
theorem szl_ints : ∀ {l : List Int}, (∀ i ∈ l, 0 ≤ i ∧ i < 1000) → SZL l.length 0 (l.map PyData.int)
  | [], _ => szl_nil
  | i :: l, h => (szl_cons (sz_int (h i List.mem_cons_self).1 (h i List.mem_cons_self).2) (szl_ints fun j hj => h j (List.mem_cons_of_mem _ hj))).mono (by rw [List.length_cons]; omega) (Nat.le_refl _)
theorem sz_deed {M : Int} {d : Deed} (h : DeedOk M d) (hM : M ≤ 100) : SZ 8 1 (deedD d) := by
  have l := fw_len h
  have a := szl_cons (sz_str (fw_rowStrs _ h.word)) (szl_ints (l := d.2) fun i hi => by have := h.ahead i hi; omega)
  exact (sz_tup a).mono (by omega) (Nat.le_refl _)
theorem szl_map {f : Deed → PyData} {b k : Nat} : ∀ {l : List Deed}, (∀ x ∈ l, SZ b k (f x)) → SZL (l.length * (b + 1)) k (l.map f)
  | [], _ => szl_nil.mono (Nat.zero_le _) (Nat.le_refl _)
  | x :: l, h => (szl_cons (h x List.mem_cons_self) (szl_map fun y hy => h y (List.mem_cons_of_mem _ hy))).mono (by rw [List.length_cons, Nat.add_mul]; omega) (Nat.le_refl _)
theorem szl_deeds {m : Nat} {ds : List Deed} {o : Int} (ok : RowOk m ds o) : SZL 72 1 (ds.map deedD) := by
  have l8 := ok.len
  have m3 := ok.m3
  exact (szl_map (b := 8) fun d hd => sz_deed (deeds_in ok.deeds d hd) (by omega)).mono (by omega) (Nat.le_refl _)
mutual
theorem rlk_show : ∀ {d : PyData}, RLk d → d.showable = true ∧ d.leavesShort 62 = true
  | _, .non => ⟨ncb_non.sh, ncb_non.lv⟩
  | _, .bl b => ⟨(ncb_bl b).sh, (ncb_bl b).lv⟩
  | _, .int i h => ⟨(ncb_int (i := (i : Int)) (by omega)).sh, (ncb_int (i := (i : Int)) (by omega)).lv⟩
  | _, .str h => ⟨by simp only [PyData.showable], by simp only [PyData.leavesShort]; exact (show ∀ x ∈ rowStrs, (x.cps.toList.all fun c => decide (c < 16 ^ 8)) = true by decide +kernel) _ h⟩
  | _, .tup h => by
    have := rlk_showAll h
    exact ⟨by simpa only [PyData.showable] using this.1, by simpa only [PyData.leavesShort] using this.2⟩
  | _, .lst h => by
    have := rlk_showAll h
    exact ⟨by simpa only [PyData.showable] using this.1, by simpa only [PyData.leavesShort] using this.2⟩
theorem rlk_showAll : ∀ {ds : List PyData}, RLkAll ds → PyData.showableAll ds = true ∧ PyData.leavesShortAll 62 ds = true
  | _, .nil => ⟨by simp only [PyData.showableAll], by simp only [PyData.leavesShortAll]⟩
  | _, .cons h t => by
    have a := rlk_show h
    have b := rlk_showAll t
    exact ⟨by simp only [PyData.showableAll, a.1, b.1, Bool.and_self], by simp only [PyData.leavesShortAll, a.2, b.2, Bool.and_self]⟩
end
theorem SZ.nc {b k : Nat} {d : PyData} (h : SZ b k d) : NcB b k d := ⟨(rlk_show h.lk).1, (rlk_show h.lk).2, h.bk, h.dp⟩
theorem rowlk_of {b k : Nat} {d : PyData} (h : SZ b k d) (hb : b ≤ 300) (hk : k ≤ 6) : RowLk d := ⟨h.nc.mono hb hk, .inr h.lk⟩
theorem rowlk_dict : RowLk (.dict []) := ⟨ncb_dict.mono (by decide) (by decide), .inl rfl⟩
/-- three parts, the second one long -/
theorem rowlk3 {a b c : PyData} {n : Nat} (ha : SZ 5 0 a) (hb : SZ n 4 b) (hc : SZ 5 0 c) (hn : n ≤ 280) : RowLk (.tuple [a, b, c]) :=
  rowlk_of (sz_tup (szl_cons (ha.mono (Nat.le_refl _) (Nat.zero_le 4)) (szl_cons hb (szl_cons (hc.mono (Nat.le_refl _) (Nat.zero_le 4)) szl_nil)))) (by omega) (by decide)
theorem szl_deed {M : Int} {d : Deed} (h : DeedOk M d) (hM : M ≤ 100) : SZL 8 0 (.str d.1 :: d.2.map PyData.int) := by
  have l := fw_len h
  exact (szl_cons (sz_str (fw_rowStrs _ h.word)) (szl_ints (l := d.2) fun i hi => by have := h.ahead i hi; omega)).mono (by omega) (Nat.le_refl _)
/-! lists of things of a kind, under way -/
def GLr (tp : Addr) (H0 H : Hp) (p n : Nat) (P : PyData → Prop) : Prop := But tp H0 H ∧ TP H tp ∧ p ≠ tp ∧ H0 p = none ∧ ∃ xs ds, H p = some (.lst xs) ∧ AnyAll (NC tp p) H xs ds ∧ ds.length = n ∧ ∀ d ∈ ds, P d
section glr
variable {tp : Addr} {σ : L2.St} {H0 H : Hp} {p n : Nat} {P : PyData → Prop} {u : TA} {Q : VK}
theorem fresh0 (b : But tp H0 H) {p : Addr} (np : p ≠ tp) (e : H p = none) : H0 p = none := by
  cases h : H0 p with
  | none => rfl
  | some o =>
    have := b p o np h
    rw [e] at this
    cases this
theorem all_newC {p : Addr} (hp : H p = none) {vs : List V} {ds : List PyData} (h : AnyAll (NT tp) H vs ds) : AnyAll (NC tp p) H vs ds := all_more (fun b u n e => by
  rcases n with n | n
  · exact n
  · rw [n, hp] at e
    cases e) h
theorem gl_new (h : MkA (NT tp) tp σ H u (fun ds => ds.length = n ∧ ∀ d ∈ ds, P d)) (hn : n ≤ 1000) (t : TP H tp) (b : But tp H0 H) (q : ∀ H' p, p ≠ sysModules → GLr tp H0 H' p n P → But tp H H' → Q (.ref p) H') : tK (tLstN u) σ H Q := by
  rw [tK_eq]
  exact h H _ (But.refl tp H) (ngd_t t) fun H1 vs ds b1 n1 a1 p1 => ⟨by rw [all_len a1, p1.1, sizeLine_eq]; omega, fun p hp ns => by
    have s := same_new (o := .lst vs) hp
    have np := n1.tape.ne_new hp
    exact q _ p ns ⟨(b.trans b1).trans (But.same s), n1.tape.same s, np, fresh0 (b.trans b1) np hp, vs, ds, upd_same, all_stay (same_but7 s) (all_newC hp a1), p1.1, p1.2⟩ (b1.trans (But.same s))⟩
theorem GLr.but (g : GLr tp H0 H p n P) {H' : Hp} (b : But tp H H') (t : TP H' tp) : GLr tp H0 H' p n P := by
  obtain ⟨g1, g2, g3, g4, xs, ds, e1, e2, e3, e4⟩ := g
  exact ⟨g1.trans b, t, g3, g4, xs, ds, b _ _ g3 e1, all_stay (fun c u z e => b c u (fun y => z (.inl y)) e) e2, e3, e4⟩
theorem GLr.ngd (g : GLr tp H0 H p n P) : NGd (NC tp p) tp H := by
  obtain ⟨g1, g2, g3, g4, xs, ds, e1, e2, e3, e4⟩ := g
  exact ngd_c g2 e1
theorem gl_snoc (g : GLr tp H0 H p n P) (hn : n ≤ 1000) {H' : Hp} {v : V} {d : PyData} (b : But tp H H') (t : TP H' tp) (a : AnyAt (NC tp p) H' v d) (pd : P d) :
    ∃ xs, H' p = some (.lst xs) ∧ xs.length < sizeLine ∧ GLr tp H0 (upd H' p (.lst (xs ++ [v]))) p (n + 1) P := by
  obtain ⟨g1, g2, g3, g4, xs, ds, e1, e2, e3, e4⟩ := g.but b t
  have st : ButN (NC tp p) H' (upd H' p (.lst (xs ++ [v]))) := fun c u nc e => by
    rw [upd_ne (fun z => nc (.inr z))]
    exact e
  refine ⟨xs, e1, by rw [all_len e2, e3, sizeLine_eq]; omega, fun c u nc e => ?_, t.upd g3, g3, g4, xs ++ [v], ds ++ [d], upd_same, all_app (all_stay st e2) (.cons (any_stay st a) .nil), by rw [List.length_append, e3]; rfl, fun x hx => ?_⟩
  · rw [upd_ne (ne_of_none e g4)]
    exact g1 _ _ nc e
  · rcases List.mem_append.mp hx with hx | hx
    · exact e4 x hx
    · rw [List.mem_singleton.mp hx]
      exact pd
theorem gl_cat {q : Addr} {ys : List V} {es : List PyData} {k : Nat} (g : GLr tp H0 H p n P) (eq : H q = some (.lst ys)) (a : AnyAll (NT tp) H ys es) (ek : es.length = k) (hP : ∀ d ∈ es, P d) (hn : n + k ≤ 1000) (qq : ∀ H' r, Same H H' → GLr tp H0 H' r (n + k) P → Q (.ref r) H') : rCat (.ref p) (.ref q) H Q := by
  obtain ⟨g1, g2, g3, g4, xs, ds, e1, e2, e3, e4⟩ := g
  refine ⟨p, q, xs, ys, rfl, rfl, e1, eq, by rw [all_len e2, all_len a, sizeLine_eq]; omega, fun r hr => ?_⟩
  have s := same_new (o := .lst (xs ++ ys)) hr
  have nr := g2.ne_new hr
  have e2' : AnyAll (NT tp) H xs ds := all_more (fun b u n _ => .inl n) e2
  refine qq _ r s ⟨g1.trans (But.same s), g2.same s, nr, fresh0 g1 nr hr, xs ++ ys, ds ++ es, upd_same, all_stay (same_but7 s) (all_newC hr (all_app e2' a)), by rw [List.length_append]; omega, fun x hx => ?_⟩
  rcases List.mem_append.mp hx with hx | hx
  · exact e4 x hx
  · exact hP x hx
end glr
def MkL (N : Addr → Prop) (tp : Addr) (σ : L2.St) (H0 : Hp) (t : TE) (R : List PyData → Prop) : Prop := ∀ H Q, But tp H0 H → NGd N tp H → (∀ H' q ys es, But tp H H' → NGd N tp H' → q ≠ tp → H' q = some (.lst ys) → AnyAll N H' ys es → R es → Q (.ref q) H') → t σ H Q
section mkl
variable {N : Addr → Prop} {tp : Addr} {σ : L2.St} {H0 : Hp} {t : TE} {u : TA} {R : List PyData → Prop} {ds : List PyData}
theorem mkl_run (h : MkL N tp σ H0 t R) {H : Hp} {Q : VK} (b : But tp H0 H) (n : NGd N tp H) (q : ∀ H' p ys es, But tp H H' → NGd N tp H' → p ≠ tp → H' p = some (.lst ys) → AnyAll N H' ys es → R es → Q (.ref p) H') : tK t σ H Q := by rw [tK_eq]; exact h H Q b n q
theorem mkl_lst (g : MkA N tp σ H0 u (· = ds)) (l : ds.length ≤ 30000) : MkL N tp σ H0 (tLst u) (· = ds) := fun H Q b n q => g H _ b n fun H1 vs ds1 b1 n1 a1 p1 => ⟨by rw [all_len a1, p1, sizeLine_eq]; omega, fun p hp => by
  have s := same_new (o := .lst vs) hp
  exact q _ _ _ _ (b1.trans (But.same s)) (n1.same s) (n1.tape.ne_new hp) upd_same (all_stay (same_but7 s) a1) p1⟩
theorem mkl_lstR (g : MkA N tp σ H0 u R) (l : ∀ ds, R ds → ds.length ≤ 30000) : MkL N tp σ H0 (tLst u) R := fun H Q b n q => g H _ b n fun H1 vs ds1 b1 n1 a1 p1 => ⟨by have := l ds1 p1; rw [all_len a1, sizeLine_eq]; omega, fun p hp => by
  have s := same_new (o := .lst vs) hp
  exact q _ _ _ _ (b1.trans (But.same s)) (n1.same s) (n1.tape.ne_new hp) upd_same (all_stay (same_but7 s) a1) p1⟩
theorem all_rep {H : Hp} {vs : List V} {ds : List PyData} (h : AnyAll N H vs ds) : ∀ k : Nat, AnyAll N H (List.replicate k vs).flatten (List.replicate k ds).flatten
  | 0 => .nil
  | k + 1 => by
    rw [List.replicate_succ, List.replicate_succ, List.flatten_cons, List.flatten_cons]
    exact all_app h (all_rep h k)
theorem mkl_rep {k : Nat} (h : MkL N tp σ H0 t (· = ds)) (l : ds.length * k ≤ 30000) (k9 : k ≤ 1000) : MkL N tp σ H0 (tOp rRep t (tC (.int (k : Int)))) (· = (List.replicate k ds).flatten) := fun H Q b n q => h H _ b n fun H1 p ys es b1 n1 _ e1 a1 p1 => by
  subst p1
  refine ⟨p, (k : Int), ys, rfl, rfl, e1, by omega, by omega, by rw [Int.toNat_natCast, all_len a1, sizeLine_eq]; omega, fun r hr => ?_⟩
  have s := same_new (o := .lst (List.replicate ((k : Int)).toNat ys).flatten) hr
  refine q _ r _ _ (b1.trans (But.same s)) (n1.same s) (n1.tape.ne_new hr) upd_same (all_stay (same_but7 s) ?_) rfl
  rw [Int.toNat_natCast]
  exact all_rep a1 k
end mkl
/-! ### k56: _law_odd_row -/
def rBool1 : List V → Hp → VK → Prop := fun xs H Q => (∃ i, xs = [.int i] ∧ Q (.bl (i != 0)) H) ∨ ∃ k, xs = [.bl k] ∧ Q (.bl k) H
def spOr : Sp := fun vs H Q _ => ∃ (tp R : Addr) (m : Nat) (o : Int) (ds : List Deed), vs = [.ref tp, .ref R] ∧ RowAt H R m ds o ∧ RowOk m ds o ∧ TP H tp ∧
  ∀ H' v d, AnyAt (NT tp) H' v d → RowLk d → TP H' tp → But tp H H' → Q v H'
theorem str_small {m : Nat} (h1 : 1 ≤ (m : Int)) (h3 : (m : Int) ≤ 3) : (toString (m : Int) : Str) ∈ rowStrs := by
  have : m = 1 ∨ m = 2 ∨ m = 3 := by omega
  rcases this with rfl | rfl | rfl <;> decide +kernel
theorem mk_strT {N : Addr → Prop} {tp : Addr} {σ : L2.St} {H0 : Hp} {i : Nat} {m : Nat} (m1 : 1 ≤ (m : Int)) (m3 : (m : Int) ≤ 3) (e : σ[i]? = some (some (.int (m : Int)))) : MkE N tp σ H0 (tCB (fun xs H Q => ∃ i, xs = [V.int i] ∧ i.natAbs.log2 < 1920 ∧ Q (V.str (Str.ofString (toString i))) H) (tCons (tVar i) tNil)) (· = .str (toString (m : Int))) := fun H Q b n q => ⟨_, e, _, rfl, by
  have : m = 1 ∨ m = 2 ∨ m = 3 := by omega
  rcases this with rfl | rfl | rfl <;> decide, q H _ _ (But.refl tp H) n (.str _) rfl⟩
set_option maxHeartbeats 8000000 in
theorem ok_or {f fG : Addr} {fd fdG : FuncData} {k : Nat} (F : Fun K "_law_odd_row" "_law_odd_row" s_law_odd_row f fd)
    (GG : FnOk P w K mg base CX0 (k + 1) fG fdG ["tape", "many"] spDigit) (kG : PySem.W.keepIn K (.ref fG) = true) (bG : Binds K fdG ["tape", "many"] []) (gG : mg "_law_digit" = some (.ref fG))
    (mn : mg "len" = none) (ml : mg "list" = none) (mt : mg "tuple" = none) (mst : mg "str" = none) (mI : mg "int" = none) (mB : mg "bool" = none) : FnOk P w K mg base CX0 (k + 2) f fd ["tape", "row"] spOr := by
  refine F.ok sc_law_odd_row (fun vs H Q E h => ?_) (fun cdv A outer s H vs Q E hr h => ?_)
  · obtain ⟨tp, R, m, o, ds, rfl, _⟩ := h
    rfl
  · obtain ⟨tp, R, m, o, ds, rfl, hrow, ok, tt, q⟩ := h
    have hu65 := hu65_of hr
    obtain ⟨D, rs, eR, eD, hd⟩ := id hrow
    have l8 := ok.len
    have m1 := ok.m1
    have m3 := ok.m3
    have o0 := ok.o0
    have o1 := ok.o1
    have rl := awLen hd
    refine ⟨_, pss_cons (ps_asg (pv 1) (pg_tup rfl (pgs_cons (pg_name (i := 2) sc_law_odd_row.nd rfl (.inl rfl)) (pgs_cons (pg_name (i := 3) sc_law_odd_row.nd rfl (.inl rfl)) (pgs_cons (pg_name (i := 4) sc_law_odd_row.nd rfl (.inl rfl)) pgs_nil)))))
    (pss_cons (ps_set (i := 5) sc_law_odd_row.nd rfl (.inl rfl) (pe_K <| pe_lstN (pa_cons pe_non (pa_cons pe_int (pa_cons pe_str (pa_cons (pe_tup pa_nil) (pa_cons (pe_callTy call_listN (by rfl) ml (by decide +kernel) (pa_cons (pv 1) pa_nil)) (pa_cons (pe_slice sl_tupZ (pv 1) po_none (po_some pe_int)) (pa_cons (pe_op op_catZ (pv 1) (pe_tup (pa_cons pe_int pa_nil))) (pa_cons (pe_tup (pa_cons (pe_op op_add (pe_op op_mod (pv 2) pe_int) pe_int) (pa_cons (pv 3) (pa_cons (pv 4) pa_nil)))) pa_nil))))))))))
    (pss_cons (ps_expr (pe_bm PySem.F.plainAttrs_list PySem.F.slot_list_append PySem.F.type_list_append mt_append (pv 5) (pa_cons (pe_K <| pe_tup (pa_cons (pe_callTy call_str_int (by rfl) mst (by decide +kernel) (pa_cons (pv 2) pa_nil)) (pa_cons (pv 3) (pa_cons (pv 4) pa_nil)))) pa_nil)))
    (pss_cons (ps_set (i := 5) sc_law_odd_row.nd rfl (.inl rfl) (pe_op op_cat (pv 5) (pe_K <| pe_lst (pa_cons (pe_tup (pa_cons (pe_ix ix_list (pe_lst (pa_cons (pv 2) (pa_cons pe_bl pa_nil))) (pe_callTy call_int1 (by rfl) mI (by decide +kernel) (pa_cons (pe_cmpR op_eq (pv 2) pe_int (nomark _)) pa_nil)) (fun _ _ => rfl)) (pa_cons (pv 3) (pa_cons (pv 4) pa_nil)))) (pa_cons (pe_tup (pa_cons (pv 2) (pa_cons (pe_op op_catZ (pv 3) (pe_tup (pa_cons (pe_tup (pa_cons pe_str pa_nil)) pa_nil))) (pa_cons (pv 4) pa_nil)))) (pa_cons pe_dnewK pa_nil))))))
    (pss_cons (ps_expr (pe_bm PySem.F.plainAttrs_list PySem.F.slot_list_append PySem.F.type_list_append mt_append (pv 5) (pa_cons (pe_K <| pe_tup (pa_cons (pe_tup (pa_cons (pv 2) (pa_cons (pv 3) (pa_cons (pv 4) pa_nil)))) pa_nil)) pa_nil)))
    (pss_mid (ps_if (pt_cmpR (op_neD hr.units) (pv 3) (pe_tup pa_nil) (nomark _))
    (pss_cons (ps_set (i := 6) sc_law_odd_row.nd rfl (.inl rfl) (pe_call GG hr (by rfl) gG kG bG .nil pass0 (pa_cons (pv 0) (pa_cons (pe_callB call_len_seq (by rfl) mn PySem.boot_len (pa_cons (pv 3) pa_nil)) pa_nil))))
    (pss_cons (ps_set (i := 7) sc_law_odd_row.nd rfl (.inl rfl) (pe_ix ix_list (pe_K <| pe_lst (pa_cons (pe_tup (pa_cons pe_str pa_nil)) (pa_cons (pe_tup (pa_cons pe_str pa_nil)) (pa_cons (pe_op op_catZ (pe_ix ix_tup (pv 3) (pv 6) (fun _ _ => rfl)) (pe_tup (pa_cons pe_int pa_nil))) (pa_cons (pe_callTy call_listN (by rfl) ml (by decide +kernel) (pa_cons (pe_ix ix_tup (pv 3) (pv 6) (fun _ _ => rfl)) pa_nil)) (pa_cons pe_non (pa_cons (pe_tup (pa_cons pe_str pa_nil)) pa_nil))))))) (pe_call GG hr (by rfl) gG kG bG .nil pass0 (pa_cons (pv 0) (pa_cons pe_int pa_nil))) (fun _ _ => rfl)))
    (pss_cons (ps_set (i := 5) sc_law_odd_row.nd rfl (.inl rfl) (pe_op op_cat (pv 5) (pe_K <| pe_op op_rep (pe_lst (pa_cons (pe_tup (pa_cons (pv 2) (pa_cons (pe_op op_catZ (pe_op op_catZ (pe_slice sl_tupZ (pv 3) po_none (po_some (pv 6))) (pe_tup (pa_cons (pv 7) pa_nil))) (pe_slice sl_tupZ (pv 3) (po_some (pe_op op_add (pv 6) pe_int)) po_none)) (pa_cons (pv 4) pa_nil)))) pa_nil)) pe_int)))
    (pss_cons (ps_set (i := 8) sc_law_odd_row.nd rfl (.inl rfl) (pe_op op_catZ (pe_slice sl_tupZ (pe_ix ix_tup (pv 3) (pv 6) (fun _ _ => rfl)) po_none (po_some pe_int)) (pe_callTy call_tuple_of (by rfl) mt (by decide +kernel) (pa_cons (pe_lc (own := [("one", 9)]) (g := gName 9) (by rfl) sc_law_odd_row.nd (pi_tup (pe_slice sl_tupZ (pe_ix ix_tup (pv 3) (pv 6) (fun _ _ => rfl)) (po_some pe_int) po_none)) (blkOk_by (own := [("one", 9)]) (N := N_law_odd_row) (sc := defScope s_law_odd_row) (by decide +kernel)) (fun _ _ _ _ _ => (pg_name (i := 9) sc_law_odd_row.nd rfl (.inl rfl))) (fun _ _ _ _ _ => pts_nil) (fun _ _ _ _ _ => (pe_ix (r := rIxL K) ix_list (pe_lst (pa_cons (pv 9) (pa_cons (pe_callTy (T := "bool") (r := rBool1) call_bool1 (by rfl) mB (by decide +kernel) (pa_cons (pv 9) pa_nil)) pa_nil))) (pe_callTy (T := "int") (r := rInt1) call_int1 (by rfl) mI (by decide +kernel) (pa_cons (pe_cmpR op_lt (pv 9) pe_int (nomark _)) pa_nil)) (fun _ _ => rfl)))) pa_nil))))
    (pss_one (ps_set (i := 5) sc_law_odd_row.nd rfl (.inl rfl) (pe_op op_cat (pv 5) (pe_K <| pe_op op_rep (pe_lst (pa_cons (pe_tup (pa_cons (pv 2) (pa_cons (pe_op op_catZ (pe_op op_catZ (pe_slice sl_tupZ (pv 3) po_none (po_some (pv 6))) (pe_tup (pa_cons (pv 8) pa_nil))) (pe_slice sl_tupZ (pv 3) (po_some (pe_op op_add (pv 6) pe_int)) po_none)) (pa_cons (pv 4) pa_nil)))) pa_nil)) pe_int))))))))
    pss_nil)
    (pss_one (ps_ret (pe_ix ix_list (pv 5) (pe_call GG hr (by rfl) gG kG bG .nil pass0 (pa_cons (pv 0) (pa_cons (pe_callB call_len_seq (by rfl) mn PySem.boot_len (pa_cons (pv 5) pa_nil)) pa_nil))) (fun _ _ => rfl))))))))), ?_⟩
    refine ⟨.ref R, rfl, R, [.int m, .ref D, .int o], rfl, SqT.of eR, rfl, .int m, [.ref D, .int o], rfl, .ref D, [.int o], rfl, .int o, [], rfl, rfl, ?_⟩
    have bD : SZ 72 2 (.tuple (ds.map deedD)) := sz_tup (szl_deeds ok)
    have sm : SZ 0 0 (.int (m : Int)) := sz_int (by omega) (by omega)
    have so : SZ 0 0 (.int o) := sz_int o0 (by omega)
    -- the row's parts, whenever
    have parts : ∀ {N : Addr → Prop} {H : Hp}, RowAt H R m ds o → NGd N tp H → AnyAt N H (.ref R) (.tuple [.int (m : Int), .tuple (ds.map deedD), .int o]) := fun h n => any_rowN (fun b xs e => n.tup e) h
    have pD : ∀ {N : Addr → Prop} {H : Hp}, H D = some (.tup (rs.map V.ref)) → DsAt H rs ds → NGd N tp H → AnyAt N H (.ref D) (.tuple (ds.map deedD)) := fun e h n => .tup (n.tup e) e (any_deedsN (fun b xs e => n.tup e) h)
    have n0 := ngd_t tt
    change tSeq (tAsg _ _) _ _ _ _
    refine step_seq (step_asg ?_)
    refine gl_new (H0 := H) (n := 8) (P := RowLk) (tp := tp) ?_ (by decide) tt (But.refl tp H) (fun H1 p np g b1 => ?_)
    · have vR := fun (σ : L2.St) (e : σ[1]? = some (some (.ref R))) => mk_var (N := NT tp) (tp := tp) (H0 := H) rfl e (parts hrow n0)
      have vD := fun (σ : L2.St) (e : σ[3]? = some (some (.ref D))) => mk_var (N := NT tp) (tp := tp) (H0 := H) rfl e (pD eD hd n0)
      have sR : SZL 75 2 [.int (m : Int), .tuple (ds.map deedD), .int o] := (szl_cons (sm.mono (Nat.le_refl _) (Nat.zero_le 2)) (szl_cons bD (szl_cons (so.mono (Nat.le_refl _) (Nat.zero_le 2)) szl_nil)))
      refine mk_consP (mk_non.mono fun d e => e ▸ rowlk_of sz_non (by decide) (by decide)) ?_
      refine mk_consP ((mk_int 0).mono fun d e => e ▸ rowlk_of (sz_int (by decide) (by decide)) (by decide) (by decide)) ?_
      refine mk_consP ((mk_str "row").mono fun d e => e ▸ rowlk_of (sz_str (by decide +kernel)) (by decide) (by decide)) ?_
      refine mk_consP ((mk_tup mk_nil (by decide)).mono fun d e => e ▸ rowlk_of (sz_tup (k := 0) szl_nil) (by decide) (by decide)) ?_
      refine mk_consP ((mk_list (vR _ rfl)).mono fun d e => e ▸ rowlk_of (sz_lst sR) (by decide) (by decide)) ?_
      refine mk_consP ((mk_take (i := 2) (k := 2) (ti_c 2) rfl (vR _ rfl)).mono fun d e => e ▸ rowlk_of (sz_tup (szl_take 2 sR)) (by decide) (by decide)) ?_
      refine mk_consP ((mk_cat (vR _ rfl) (mk_tup (mk_cons (mk_int 0) mk_nil) (Nat.le_of_ble_eq_true rfl)) (Nat.le_of_ble_eq_true rfl)).mono fun d e => e ▸ rowlk_of (sz_tup (szl_app sR (szl_cons ((sz_int (i := 0) (by decide) (by decide)).mono (Nat.le_refl _) (Nat.zero_le 2)) szl_nil))) (by decide) (by decide)) ?_
      refine mk_consP ((mk_tup (mk_cons (mk_ti (k := (m : Int) % 3 + 1) fun H Q q => ⟨_, rfl, (m : Int), 3, rfl, rfl, (by show (0 : Int) < 3; decide), _, _, rfl, rfl, q⟩) (mk_cons (vD _ rfl) (mk_cons (mk_ti (ti_var rfl)) mk_nil))) (Nat.le_of_ble_eq_true rfl)).mono fun d e => e ▸ rowlk3 ((sz_int (by omega) (by omega)).mono (by decide) (Nat.le_refl _)) (bD.mono (Nat.le_refl _) (by decide)) (so.mono (by decide) (Nat.le_refl _)) (by decide)) ?_
      exact mk_nilP
    · have hrow1 := (b1.tape tt).row hrow
      have eD1 := b1.tape tt _ _ eD
      have hd1 := (TupsStay.ds (b1.tape tt) hd)
      obtain ⟨g1, g2, g3, g4, xs1, ds1, e1, e2, e3, e4⟩ := id g
      refine ⟨.ref p, rfl, .inl ⟨rfl, _, .inl (.inl e1)⟩, ?_⟩
      refine step_cons (mk_run (N := NC tp p) (tp := tp) (H0 := H1) (P := RowLk) ?_ (But.refl tp H1) g.ngd (fun H2 v d b2 n2 a2 pd => ?_))
      · refine (mk_tup (mk_cons (mk_strT m1 m3 rfl) (mk_cons (mk_var (.inl rfl) rfl (pD eD1 hd1 g.ngd)) (mk_cons (mk_ti (ti_var rfl)) mk_nil))) (Nat.le_of_ble_eq_true rfl)).mono fun d e => e ▸ rowlk3 (sz_str (str_small m1 m3)) (bD.mono (Nat.le_refl _) (by decide)) (so.mono (by decide) (Nat.le_refl _)) (by decide)
      · obtain ⟨xs2, f1, f2, g2⟩ := gl_snoc g (by decide) b2 n2.tape a2 pd
        refine ⟨p, _, _, rfl, rfl, f1, f2, ?_⟩
        generalize upd H2 p (.lst (xs2 ++ [v])) = H3 at g2
        clear e1 e2 f1 f2 g1 a2
        have t3 := g2.2.1
        have b3 := g2.1
        have hrow3 := (b3.tape tt).row hrow
        have eD3 := b3.tape tt _ _ eD
        have hd3 := TupsStay.ds (b3.tape tt) hd
        obtain ⟨c1, hc1⟩ : ∃ c1 : Bool, c1 = decide (V.int (m : Int) = V.int 1) := ⟨_, rfl⟩
        refine ⟨.ref p, rfl, ?_⟩
        refine mkl_run (N := NT tp) (tp := tp) (H0 := H3) (R := (· = [.tuple [if c1 then .bool true else .int (m : Int), .tuple (ds.map deedD), .int o], .tuple [.int (m : Int), .tuple (ds.map deedD ++ [.tuple [.str "none"]]), .int o], .dict []])) ?_ (But.refl tp H3) (ngd_t t3) (fun H4 q4 ys es b4 n4 _ e4 a4 r4 => ?_)
        · have vD := fun (σ : L2.St) (e : σ[3]? = some (some (.ref D))) => mk_var (N := NT tp) (tp := tp) (H0 := H3) rfl e (pD eD3 hd3 (ngd_t t3))
          refine mkl_lst (mk_cons (mk_tup (mk_cons (mk_pick (mk_ti (ti_var rfl)) (mk_bl true) ⟨c1, fun H Q q => ⟨.int (m : Int), rfl, rfl, .inr ⟨_, rfl, hc1 ▸ q⟩⟩, rfl⟩) (mk_cons (vD _ rfl) (mk_cons (mk_ti (ti_var rfl)) mk_nil))) (Nat.le_of_ble_eq_true rfl)) (mk_cons (mk_tup (mk_cons (mk_ti (ti_var rfl)) (mk_cons (mk_cat (vD _ rfl) (mk_tup (mk_cons (mk_tup (mk_cons (mk_str "none") mk_nil) (Nat.le_of_ble_eq_true rfl)) mk_nil) (Nat.le_of_ble_eq_true rfl)) ?_) (mk_cons (mk_ti (ti_var rfl)) mk_nil))) (Nat.le_of_ble_eq_true rfl)) (mk_cons mk_dict mk_nil))) (Nat.le_of_ble_eq_true rfl)
          rw [List.length_map]
          show ds.length + 1 ≤ 30000
          omega
        · refine gl_cat (k := 3) (g2.but b4 n4.tape) e4 a4 (by rw [r4]; rfl) (fun d hd => ?_) (by decide) (fun H5 p5 s5 g5 => ?_)
          · rw [r4] at hd
            simp only [List.mem_cons, List.not_mem_nil, or_false] at hd
            rcases hd with rfl | rfl | rfl
            · cases c1 with
              | true => exact rowlk3 ((sz_bl true).mono (Nat.zero_le _) (Nat.le_refl _)) (bD.mono (Nat.le_refl _) (by decide)) (so.mono (by decide) (Nat.le_refl _)) (by decide)
              | false => exact rowlk3 (sm.mono (by decide) (Nat.le_refl _)) (bD.mono (Nat.le_refl _) (by decide)) (so.mono (by decide) (Nat.le_refl _)) (by decide)
            · exact rowlk3 (sm.mono (by decide) (Nat.le_refl _)) ((sz_tup (szl_app (szl_deeds ok) (szl_cons (sz_tup (szl_cons (sz_str (x := "none") (by decide +kernel)) szl_nil)) szl_nil))).mono (Nat.le_refl _) (by decide)) (so.mono (by decide) (Nat.le_refl _)) (by decide)
            · exact rowlk_dict
          · have t5 := g5.2.1
            have b5 := g5.1
            have hrow5 := (b5.tape tt).row hrow
            have eD5 := b5.tape tt _ _ eD
            have hd5 := TupsStay.ds (b5.tape tt) hd
            obtain ⟨xs5, ds5, k1, k2, k3, k4⟩ := g5.2.2.2.2
            refine ⟨.ref p5, rfl, .inl ⟨rfl, _, .inl (.inl k1)⟩, ?_⟩
            refine step_cons (mk_run (N := NC tp p5) (tp := tp) (H0 := H5) (P := RowLk) ?_ (But.refl tp H5) g5.ngd (fun H6 v6 d6 b6 n6 a6 pd6 => ?_))
            · refine (mk_tup (mk_cons (mk_tup (mk_cons (mk_ti (ti_var rfl)) (mk_cons (mk_var (.inl rfl) rfl (pD eD5 hd5 g5.ngd)) (mk_cons (mk_ti (ti_var rfl)) mk_nil))) (Nat.le_of_ble_eq_true rfl)) mk_nil) (Nat.le_of_ble_eq_true rfl)).mono fun d e => e ▸ ?_
              exact rowlk_of (sz_tup (szl_cons (sz_tup (szl_cons (sm.mono (Nat.le_refl _) (Nat.zero_le 2)) (szl_cons bD (szl_cons (so.mono (Nat.le_refl _) (Nat.zero_le 2)) szl_nil)))) szl_nil)) (by decide) (by decide)
            · obtain ⟨xs6, f1, f2, g6⟩ := gl_snoc g5 (by decide) b6 n6.tape a6 pd6
              refine ⟨p5, _, _, rfl, rfl, f1, f2, ?_⟩
              generalize upd H6 p5 (.lst (xs6 ++ [v6])) = H7 at g6
              clear f1 f2 a6 k1 k2 k3 k4
              have t7 := g6.2.1
              have b7 := g6.1
              have eD7 := b7.tape tt _ _ eD
              have hd7 := TupsStay.ds (b7.tape tt) hd
              refine ⟨fun σ2 H2 => ∃ (p n : Nat) (y6 y7 y8 : Option V), σ2 = [some (.ref tp), some (.ref R), some (.int (m : Int)), some (.ref D), some (.int o), some (.ref p), y6, y7, y8, none] ∧ GLr tp H H2 p n RowLk ∧ 1 ≤ n ∧ n ≤ 100, ?_, ?_⟩
              · refine ⟨.ref D, rfl, (by show 0 ≤ sizeLine; decide), fun Z hZ => ?_⟩
                have sZ := same_new (o := .tup []) hZ
                have eZ : upd H7 Z (.tup []) Z = some (.tup []) := upd_same
                generalize upd H7 Z (.tup []) = H8 at sZ eZ
                have g8 := g6.but (But.same sZ) (t7.same sZ)
                have t8 := g8.2.1
                have eD8 := sZ _ _ eD7
                have hd8 := TupsStay.ds (Same.tups sZ) hd7
                have lay := rlk_lay bD.lk
                refine ⟨.tuple (ds.map deedD), .tuple [], dp_any (pD eD8 hd8 (ngd_t t8)) lay.2, .tup (SqT.of eZ) .nil, shp lay.1 (Nat.le_trans bD.dp (by decide)), by decide +kernel, _, rfl, ite2 (fun e => ?_) (fun e => ?_)⟩
                · have dne : ds ≠ [] := fun z => by
                    rw [z] at e
                    revert e
                    decide +kernel
                  have dl : 0 < ds.length := List.length_pos_iff.mpr dne
                  refine ⟨.ref tp, rfl, .ref D, rfl, D, _, rfl, .inr (SqT.of eD8), tp, _, rfl, by rw [List.length_map]; omega, by rw [List.length_map]; omega, t8, fun H9 z z0 z1 t9 b9 => ?_⟩
                  rw [List.length_map] at z1
                  obtain ⟨j, rfl⟩ := Int.eq_ofNat_of_zero_le z0
                  have jr : j < rs.length := by omega
                  have jl : j < ds.length := by omega
                  have g9 := g8.but b9 t9
                  have eD9 := b9.tape t8 _ _ eD8
                  have hd9 := TupsStay.ds (b9.tape t8) hd8
                  have jd : (ds.map deedD)[j]? = some (deedD ds[j]) := by rw [List.getElem?_map, List.getElem?_eq_getElem jl]; rfl
                  have okj := deeds_in ok.deeds ds[j] (List.getElem_mem jl)
                  have okn : ((m + ds.length : Nat) : Int) ≤ 100 := by omega
                  have vD9 := fun {H0 : Hp} (b : But tp H9 H0) (t : TP H0 tp) (σ : L2.St) (e : σ[3]? = some (some (.ref D))) => mk_var (N := NT tp) (tp := tp) (H0 := H0) rfl e (pD (b.tape t9 _ _ eD9) (TupsStay.ds (b.tape t9) hd9) (ngd_t t))
                  refine mkl_run (N := NT tp) (tp := tp) (H0 := H9) (R := (· = [.tuple [.str "none"], .tuple [.str "all"], .tuple ((.str ds[j].1 :: ds[j].2.map PyData.int) ++ [.int 0]), .list (.str ds[j].1 :: ds[j].2.map PyData.int), .none, .tuple [.str "nop"]])) ?_ (But.refl tp H9) (ngd_t t9) (fun Ha qa ya ea ba na nqa eqa aa ra => ?_)
                  · have vd := fun (σ : L2.St) (e3 : σ[3]? = some (some (.ref D))) (e6 : σ[6]? = some (some (.int (j : Int)))) => mk_ixT (K := K) (vD9 (But.refl tp H9) t9 σ e3) (ti_var e6) jd
                    refine mkl_lst (mk_cons (mk_tup (mk_cons (mk_str "none") mk_nil) (Nat.le_of_ble_eq_true rfl)) (mk_cons (mk_tup (mk_cons (mk_str "all") mk_nil) (Nat.le_of_ble_eq_true rfl)) (mk_cons (mk_cat (ds := .str ds[j].1 :: ds[j].2.map PyData.int) (vd _ rfl rfl) (mk_tup (mk_cons (mk_int 0) mk_nil) (Nat.le_of_ble_eq_true rfl)) ?_) (mk_cons (mk_list (ds := .str ds[j].1 :: ds[j].2.map PyData.int) (vd _ rfl rfl)) (mk_cons mk_non (mk_cons (mk_tup (mk_cons (mk_str "nop") mk_nil) (Nat.le_of_ble_eq_true rfl)) mk_nil)))))) (Nat.le_of_ble_eq_true rfl)
                    have := fw_len okj
                    rw [List.length_cons, List.length_map]
                    show ds[j].2.length + 1 + 1 ≤ 30000
                    omega
                  · have ta := na.tape
                    have bb1 := b9.trans ba
                    refine ⟨.ref tp, rfl, tp, 6, rfl, by decide, by decide, ta, fun Hb i2 i20 i21 tb bb => ?_⟩
                    obtain ⟨j2, rfl⟩ := Int.eq_ofNat_of_zero_le i20
                    have ly := all_len aa
                    have jl2 : j2 < ya.length := by
                      rw [ly, ra]
                      show j2 < 6
                      omega
                    obtain ⟨d2, hd2, ha2⟩ := all_get aa (List.getElem?_eq_getElem jl2)
                    obtain ⟨x2, hx2⟩ : ∃ x2, x2 = ya[j2] := ⟨_, rfl⟩
                    rw [← hx2] at ha2
                    have sl := szl_deed okj okn
                    have sz2 : SZ 13 1 d2 := by
                      have := List.mem_of_getElem? hd2
                      rw [ra] at this
                      simp only [List.mem_cons, List.not_mem_nil, or_false] at this
                      rcases this with rfl | rfl | rfl | rfl | rfl | rfl
                      · exact (sz_tup (szl_cons (sz_str (x := "none") (by decide +kernel)) szl_nil)).mono (by decide) (Nat.le_refl _)
                      · exact (sz_tup (szl_cons (sz_str (x := "all") (by decide +kernel)) szl_nil)).mono (by decide) (Nat.le_refl _)
                      · exact (sz_tup (szl_app sl (szl_cons (sz_int (i := 0) (by decide) (by decide)) szl_nil))).mono (by decide) (Nat.le_refl _)
                      · exact (sz_lst sl).mono (by decide) (Nat.le_refl _)
                      · exact sz_non.mono (by decide) (by decide)
                      · exact (sz_tup (szl_cons (sz_str (x := "nop") (by decide +kernel)) szl_nil)).mono (by decide) (Nat.le_refl _)
                    refine ⟨qa, ya, ((j2 : Nat) : Int), x2, rfl, rfl, .inl (.inl (bb _ _ nqa eqa)), hx2 ▸ atI_nat (List.getElem?_eq_getElem jl2), ?_⟩
                    have gb := (g9.but ba ta).but bb tb
                    have b9b := ba.trans bb
                    have hx2b : AnyAt (NT tp) Hb x2 d2 := any_stay (fun c u nc e => bb c u nc e) ha2
                    clear aa eqa ra hd2 ly hx2
                    -- a deed otherwise, in its place
                    have szr : ∀ {d3 : PyData}, SZ 13 1 d3 → RowLk (.tuple [.int (m : Int), .tuple (((ds.map deedD).take j ++ [d3]) ++ (ds.map deedD).drop (j + 1)), .int o]) := fun h3 =>
                      rowlk3 (sm.mono (by decide) (Nat.le_refl _)) ((sz_tup (szl_app (szl_app (szl_take j (szl_deeds ok)) (szl_cons h3 szl_nil)) (szl_drop (j + 1) (szl_deeds ok)))).mono (Nat.le_refl _) (by decide)) (so.mono (by decide) (Nat.le_refl _)) (by decide)
                    refine ⟨.ref p5, rfl, ?_⟩
                    refine mkl_run (N := NT tp) (tp := tp) (H0 := Hb) (R := (· = (List.replicate 4 [PyData.tuple [.int (m : Int), .tuple (((ds.map deedD).take j ++ [d2]) ++ (ds.map deedD).drop (j + 1)), .int o]]).flatten)) ?_ (But.refl tp Hb) (ngd_t tb) (fun Hc qc yc ec bc nc _ eqc ac rc => ?_)
                    · refine mkl_rep (k := 4) (mkl_lst (mk_cons (mk_tup (mk_cons (mk_ti (ti_var rfl)) (mk_cons (mk_cat (mk_cat (mk_take (k := j) (ti_var rfl) rfl (vD9 b9b tb _ rfl)) (mk_tup (mk_cons (mk_var rfl rfl hx2b) mk_nil) (Nat.le_of_ble_eq_true rfl)) ?_) (mk_drop (k := j + 1) (ti_add1 rfl) rfl (vD9 b9b tb _ rfl)) ?_) (mk_cons (mk_ti (ti_var rfl)) mk_nil))) (Nat.le_of_ble_eq_true rfl)) mk_nil) (Nat.le_of_ble_eq_true rfl)) (Nat.le_of_ble_eq_true rfl) (by decide)
                      · rw [List.length_take, List.length_map]
                        show _ + 1 ≤ 30000
                        omega
                      · rw [List.length_append, List.length_take, List.length_drop, List.length_map]
                        show _ + 1 + _ ≤ 30000
                        omega
                    · have tc := nc.tape
                      refine gl_cat (k := 4) (gb.but bc tc) eqc ac (by rw [rc]; rfl) (fun d hd => ?_) (by decide) (fun He pe se ge => ?_)
                      · rw [rc] at hd
                        have : d = PyData.tuple [.int (m : Int), .tuple (((ds.map deedD).take j ++ [d2]) ++ (ds.map deedD).drop (j + 1)), .int o] := by
                          simp only [List.replicate, List.flatten_cons, List.flatten_nil, List.cons_append, List.nil_append, List.mem_cons, List.not_mem_nil, or_false, or_self] at hd
                          exact hd
                        rw [this]
                        exact szr sz2
                      · have te := ge.2.1
                        have b9e := (b9b.trans bc).trans (But.same se)
                        have eDe := b9e.tape t9 _ _ eD9
                        have hde := TupsStay.ds (b9e.tape t9) hd9
                        obtain ⟨dj, edj1, edj⟩ := awGet hde (List.getElem?_eq_getElem jr)
                        have edj2 : dj = ds[j] := by
                          rw [List.getElem?_eq_getElem jl] at edj1
                          exact (Option.some.inj edj1).symm
                        rw [edj2] at edj
                        have nums := (row_nums ok ds[j] (List.getElem_mem jl))
                        have ix : atI (rs.map V.ref) ((j : Nat) : Int) = some (.ref rs[j]) := atI_nat (by rw [List.getElem?_map, List.getElem?_eq_getElem jr]; rfl)
                        refine ⟨.ref D, rfl, .int ((j : Nat) : Int), rfl, D, _, ((j : Nat) : Int), .ref rs[j], rfl, rfl, SqT.of eDe, ix, 1, rfl, rs[j], dV ds[j], rfl, edj, fun p1 Hf sf ef => ?_⟩
                        have ef' : Hf p1 = some (.tup [.str ds[j].1]) := by
                          rw [ef]
                          have : cutV (dV ds[j]) none (some 1) = (dV ds[j]).take 1 := cut_take (dV ds[j]) 1
                          rw [this]
                          rfl
                        refine ⟨.ref D, rfl, .int ((j : Nat) : Int), rfl, D, _, ((j : Nat) : Int), .ref rs[j], rfl, rfl, SqT.of (sf _ _ eDe), ix, 1, rfl, rs[j], dV ds[j], rfl, sf _ _ edj, fun p2 Hg sg eg => ?_⟩
                        have eg' : Hg p2 = some (.tup (ds[j].2.map V.int)) := by
                          rw [eg]
                          have : cutV (dV ds[j]) (some 1) none = (dV ds[j]).drop 1 := cut_drop (dV ds[j]) 1
                          rw [this]
                          rfl
                        refine ⟨p2, rfl, ⟨_, SqT.of eg'⟩, fun C hC => ?_⟩
                        refine lc_tup (K := K) (a := p2) (xs := ds[j].2.map V.int) (fun i H6 => ∃ (zs : List V) (ts : List PyData), H6 C = some (.lst zs) ∧ (∀ H', AnyAll (NT tp) H' zs ts) ∧ SZL ts.length 0 ts ∧ ts.length = i ∧ i ≤ 2 ∧ Same Hg H6) ⟨[], [], upd_same, fun _ => .nil, szl_nil, rfl, by decide, same_new hC⟩ (fun i H6 _ hp => ?_) (fun i x H6 hx hp => ?_) (fun H6 hp => ?_)
                        · obtain ⟨_, _, _, _, _, _, _, s6⟩ := hp
                          exact SqT.of (s6 _ _ eg')
                        · obtain ⟨zs, ts, eC, hz, hs, hl, i2, s6⟩ := hp
                          rw [List.getElem?_map] at hx
                          obtain ⟨z, hz1, rfl⟩ := Option.map_eq_some_iff.mp hx
                          have il := (List.getElem?_eq_some_iff.mp hz1).1
                          have zb := nums.2 z (List.mem_of_getElem? hz1)
                          refine ⟨rfl, .int z, rfl, .int z, rfl, .inl ⟨z, rfl, (by show 2 ≤ sizeLine; decide), fun T hT => ?_⟩⟩
                          have sT := same_new (o := .lst [.int z, .bl (z != 0)]) hT
                          have eT : upd H6 T (.lst [.int z, .bl (z != 0)]) T = some (.lst [.int z, .bl (z != 0)]) := upd_same
                          generalize upd H6 T (.lst [.int z, .bl (z != 0)]) = H7 at sT eT
                          have eC7 := sT _ _ eC
                          have fin : ∀ (v : V) (d : PyData), (∀ H', AnyAt (NT tp) H' v d) → SZ 0 0 d → ∃ xs, H7 C = some (.lst xs) ∧ xs.length < sizeLine ∧ (∃ (zs : List V) (ts : List PyData), upd H7 C (.lst (xs ++ [v])) C = some (.lst zs) ∧ (∀ H', AnyAll (NT tp) H' zs ts) ∧ SZL ts.length 0 ts ∧ ts.length = i + 1 ∧ i + 1 ≤ 2 ∧ Same Hg (upd H7 C (.lst (xs ++ [v])))) := fun v d hv hd => by
                            refine ⟨zs, eC7, by rw [all_len (hz H7), sizeLine_eq]; omega, zs ++ [v], ts ++ [d], upd_same, fun H' => all_app (hz H') (.cons (hv H') .nil), ?_, by rw [List.length_append, hl]; rfl, by omega, fun b u e => ?_⟩
                            · rw [List.length_append]
                              exact szl_app hs (szl_cons hd szl_nil)
                            · rw [upd_ne (ne_of_none e hC)]
                              exact sT _ _ (s6 _ _ e)
                          refine ⟨.int z, rfl, z, 2, rfl, rfl, .inr ⟨_, rfl, ?_⟩⟩
                          by_cases c : z < 2
                          · exact ⟨T, _, 1, .bl (z != 0), rfl, by rw [decide_eq_true c]; rfl, .inl (.inl eT), atI_nat (j := 1) rfl, fin _ _ (fun _ => .bl _) (sz_bl _)⟩
                          · exact ⟨T, _, 0, .int z, rfl, by rw [decide_eq_false c]; rfl, .inl (.inl eT), atI_nat (j := 0) rfl, fin _ _ (fun _ => .int _) (sz_int zb.1 (by omega))⟩
                        · obtain ⟨zs, ts, eC, hz, hs, hl, i2, s6⟩ := hp
                          have lz := all_len (hz H6)
                          refine ⟨C, _, rfl, .inl ⟨.inl (.inl eC), fun V1 hV1 => ?_⟩⟩
                          have sV := same_new (o := .tup zs) hV1
                          refine ⟨p1, V1, [.str ds[j].1], zs, rfl, rfl, sV _ _ (s6 _ _ (sg _ _ ef')), upd_same, by rw [lz, sizeLine_eq]; show 1 + ts.length ≤ _; omega, fun p8 Hh sh eh => ?_⟩
                          have seh : Same He Hh := ((sf.trans sg).trans (s6.trans sV)).trans sh
                          have th := te.same seh
                          have gh := ge.but (But.same seh) th
                          have b9h := b9e.trans (But.same seh)
                          have ap8 : AnyAt (NT tp) Hh (.ref p8) (.tuple (.str ds[j].1 :: ts)) := .tup ((ngd_t th).tup eh) eh (.cons (.str _) (hz Hh))
                          have sz8 : SZ 13 1 (.tuple (.str ds[j].1 :: ts)) := (sz_tup (szl_cons (sz_str (fw_rowStrs _ okj.word)) hs)).mono (by omega) (Nat.le_refl _)
                          refine ⟨.ref pe, rfl, ?_⟩
                          refine mkl_run (N := NT tp) (tp := tp) (H0 := Hh) (R := (· = (List.replicate 2 [PyData.tuple [.int (m : Int), .tuple (((ds.map deedD).take j ++ [.tuple (.str ds[j].1 :: ts)]) ++ (ds.map deedD).drop (j + 1)), .int o]]).flatten)) ?_ (But.refl tp Hh) (ngd_t th) (fun Hk qk yk ek bk nk _ eqk ak rk => ?_)
                          · refine mkl_rep (k := 2) (mkl_lst (mk_cons (mk_tup (mk_cons (mk_ti (ti_var rfl)) (mk_cons (mk_cat (mk_cat (mk_take (k := j) (ti_var rfl) rfl (vD9 b9h th _ rfl)) (mk_tup (mk_cons (mk_var rfl rfl ap8) mk_nil) (Nat.le_of_ble_eq_true rfl)) ?_) (mk_drop (k := j + 1) (ti_add1 rfl) rfl (vD9 b9h th _ rfl)) ?_) (mk_cons (mk_ti (ti_var rfl)) mk_nil))) (Nat.le_of_ble_eq_true rfl)) mk_nil) (Nat.le_of_ble_eq_true rfl)) (Nat.le_of_ble_eq_true rfl) (by decide)
                            · rw [List.length_take, List.length_map]
                              show _ + 1 ≤ 30000
                              omega
                            · rw [List.length_append, List.length_take, List.length_drop, List.length_map]
                              show _ + 1 + _ ≤ 30000
                              omega
                          · refine gl_cat (k := 2) (gh.but bk nk.tape) eqk ak (by rw [rk]; rfl) (fun d hd => ?_) (by decide) (fun Hl pl sl gl => ?_)
                            · rw [rk] at hd
                              have : d = PyData.tuple [.int (m : Int), .tuple (((ds.map deedD).take j ++ [.tuple (.str ds[j].1 :: ts)]) ++ (ds.map deedD).drop (j + 1)), .int o] := by
                                simp only [List.replicate, List.flatten_cons, List.flatten_nil, List.cons_append, List.nil_append, List.mem_cons, List.not_mem_nil, or_false, or_self] at hd
                                exact hd
                              rw [this]
                              exact szr sz8
                            · exact ⟨pl, _, _, _, _, rfl, gl, by decide, by decide⟩
                · exact ⟨p5, _, _, _, _, rfl, g8, by decide, by decide⟩
              · rintro σ2 H8 ⟨p8, n8, y6, y7, y8, rfl, g8, n1, n100⟩
                obtain ⟨h1, t8, h3, h4, xs8, ds8, k1, k2, k3, k4⟩ := g8
                have lx := all_len k2
                refine ⟨.ref p8, rfl, .ref tp, rfl, .ref p8, rfl, p8, _, rfl, .inl (.inl (.inl k1)), tp, _, rfl, by omega, by omega, t8, fun H9 z z0 z1 t9 b9 => ?_⟩
                obtain ⟨j, rfl⟩ := Int.eq_ofNat_of_zero_le z0
                have jl : j < xs8.length := by omega
                obtain ⟨d, hd, ha⟩ := all_get k2 (List.getElem?_eq_getElem jl)
                refine ⟨p8, xs8, ((j : Nat) : Int), xs8[j], rfl, rfl, .inl (.inl (b9 _ _ h3 k1)), atI_nat (List.getElem?_eq_getElem jl), ?_⟩
                exact q H9 _ d (any_stay (fun c u nc e => b9 c u nc e) (any_more (fun b u n _ => .inl n) ha)) (k4 d (List.mem_of_getElem? hd)) t9 (h1.trans b9)
/-! ### k56: _law_bent_step -/
/-! how much is shown -/
structure NcL (b k : Nat) (xs : List PyData) : Prop where
  sh : PyData.showableAll xs = true
  lv : PyData.leavesShortAll 62 xs = true
  bk : PyData.bulkAll xs ≤ b
  dp : PyData.depthAll xs ≤ k
theorem ncl_nil {b k : Nat} : NcL b k [] := ⟨by simp only [PyData.showableAll], by simp only [PyData.leavesShortAll], by simp only [PyData.bulkAll, Nat.zero_le], by simp only [PyData.depthAll, Nat.zero_le]⟩
theorem ncl_cons {b1 b2 k : Nat} {x : PyData} {xs : List PyData} (h : NcB b1 k x) (t : NcL b2 k xs) : NcL (b1 + b2 + 1) k (x :: xs) := by
  obtain ⟨h1, h2, h3, h4⟩ := h
  obtain ⟨t1, t2, t3, t4⟩ := t
  refine ⟨by simp only [PyData.showableAll, h1, t1, Bool.and_self], by simp only [PyData.leavesShortAll, h2, t2, Bool.and_self], ?_, ?_⟩
  · simp only [PyData.bulkAll]
    omega
  · simp only [PyData.depthAll]
    omega
theorem ncl_cut {b k : Nat} {x : PyData} {xs : List PyData} (h : NcL b k (x :: xs)) : ∃ b1 b2, NcB b1 k x ∧ NcL b2 k xs ∧ b1 + b2 + 1 ≤ b := by
  obtain ⟨h1, h2, h3, h4⟩ := h
  simp only [PyData.showableAll, Bool.and_eq_true] at h1
  simp only [PyData.leavesShortAll, Bool.and_eq_true] at h2
  simp only [PyData.bulkAll] at h3
  simp only [PyData.depthAll] at h4
  exact ⟨x.bulk, PyData.bulkAll xs, ⟨h1.1, h2.1, Nat.le_refl _, by omega⟩, ⟨h1.2, h2.2, Nat.le_refl _, by omega⟩, by omega⟩
theorem NcL.mono {b b2 k k2 : Nat} {xs : List PyData} (h : NcL b k xs) (hb : b ≤ b2) (hk : k ≤ k2) : NcL b2 k2 xs := ⟨h.sh, h.lv, Nat.le_trans h.bk hb, Nat.le_trans h.dp hk⟩
theorem ncl_app {k : Nat} : ∀ {b1 b2 : Nat} {xs ys : List PyData}, NcL b1 k xs → NcL b2 k ys → NcL (b1 + b2) k (xs ++ ys)
  | b1, b2, [], ys, _, h => h.mono (Nat.le_add_left _ _) (Nat.le_refl _)
  | b1, b2, x :: xs, ys, h, g => by
    obtain ⟨c1, c2, h1, h2, h3⟩ := ncl_cut h
    have := ncl_cons h1 (ncl_app h2 g)
    exact this.mono (by omega) (Nat.le_refl _)
theorem ncl_take {k : Nat} : ∀ {b : Nat} {xs : List PyData} (n : Nat), NcL b k xs → NcL b k (xs.take n)
  | b, xs, 0, _ => by rw [List.take_zero]; exact ncl_nil
  | b, [], n + 1, _ => ncl_nil
  | b, x :: xs, n + 1, h => by
    obtain ⟨c1, c2, h1, h2, h3⟩ := ncl_cut h
    exact (ncl_cons h1 (ncl_take n h2)).mono h3 (Nat.le_refl _)
theorem ncl_drop {k : Nat} : ∀ {b : Nat} {xs : List PyData} (n : Nat), NcL b k xs → NcL b k (xs.drop n)
  | b, xs, 0, h => h
  | b, [], n + 1, _ => ncl_nil
  | b, x :: xs, n + 1, h => by
    obtain ⟨c1, c2, h1, h2, h3⟩ := ncl_cut h
    exact (ncl_drop n h2).mono (by omega) (Nat.le_refl _)
theorem ncl_rev {k : Nat} : ∀ {b : Nat} {xs : List PyData}, NcL b k xs → NcL b k xs.reverse
  | b, [], h => h
  | b, x :: xs, h => by
    obtain ⟨c1, c2, h1, h2, h3⟩ := ncl_cut h
    rw [List.reverse_cons]
    exact (ncl_app (ncl_rev h2) (ncl_cons h1 (ncl_nil (b := 0)))).mono (by omega) (Nat.le_refl _)
theorem ncl_tup {b k : Nat} {xs : List PyData} (h : NcL b k xs) : NcB b (k + 1) (.tuple xs) := ⟨by simpa only [PyData.showable] using h.sh, by simpa only [PyData.leavesShort] using h.lv, by simpa only [PyData.bulk] using h.bk, by have := h.dp; simp only [PyData.depth]; omega⟩
theorem ncl_lst {b k : Nat} {xs : List PyData} (h : NcL b k xs) : NcB b (k + 1) (.list xs) := ⟨by simpa only [PyData.showable] using h.sh, by simpa only [PyData.leavesShort] using h.lv, by simpa only [PyData.bulk] using h.bk, by have := h.dp; simp only [PyData.depth]; omega⟩
theorem ncl_ofT {b k : Nat} {xs : List PyData} (h : NcB b (k + 1) (.tuple xs)) : NcL b k xs := ⟨by simpa only [PyData.showable] using h.sh, by simpa only [PyData.leavesShort] using h.lv, by simpa only [PyData.bulk] using h.bk, by have := h.dp; simp only [PyData.depth] at this; omega⟩

structure StepOk (d : PyData) : Prop where
  nice : NcB 400 8 d
  lk : StepLk d
theorem fw_odd {x : Str} (h : FWd x) : OddOk (.str x) := by
  rcases h with rfl | rfl
  · exact odd_str (by decide +kernel) (by decide +kernel) (by decide +kernel)
  · exact odd_str (by decide +kernel) (by decide +kernel) (by decide +kernel)
theorem fw_nc {x : Str} (h : FWd x) : NcB 4 0 (.str x) := by
  rcases h with rfl | rfl
  · exact ncb_str (by decide +kernel) (by decide +kernel)
  · exact ncb_str (by decide +kernel) (by decide +kernel)
/-- three parts: the first one odd, the third one a row's likeness -/
theorem stepOk3 {a b c : PyData} (ha : OddOk a) (hb : NcB 40 3 b) (hc : RowLk c) : StepOk (.tuple [a, b, c]) :=
  ⟨(ncl_tup (ncl_cons (ha.nice.mono (Nat.le_refl _) (by decide : 3 ≤ 6)) (ncl_cons (hb.mono (Nat.le_refl _) (by decide : 3 ≤ 6)) (ncl_cons hc.nice (ncl_nil (b := 0)))))).mono (by decide) (by decide), fun x y z e => by
    simp only [PyData.tuple.injEq, List.cons.injEq, and_true] at e
    obtain ⟨rfl, rfl, rfl⟩ := e
    exact ⟨ha, hc⟩⟩
theorem nc_int {i : Int} (h : i.natAbs < 10 ^ 60) : NcB 40 3 (.int i) := (ncb_int h).mono (by decide) (by decide)
theorem rowlk_row {m : Nat} {ds : List Deed} {o : Int} (ok : RowOk m ds o) : RowLk (rowD m ds o) ∧ NcB 75 3 (rowD m ds o) := by
  have l8 := ok.len
  have m1 := ok.m1
  have m3 := ok.m3
  have o0 := ok.o0
  have o1 := ok.o1
  have a : SZ 75 3 (rowD m ds o) := sz_tup (szl_cons ((sz_int (i := (m : Int)) (by omega) (by omega)).mono (Nat.le_refl _) (Nat.zero_le 2)) (szl_cons (sz_tup (szl_deeds ok)) (szl_cons ((sz_int (i := o) o0 (by omega)).mono (Nat.le_refl _) (Nat.zero_le 2)) szl_nil)))
  exact ⟨rowlk_of a (by decide) (by decide), a.nc⟩
/-- evaluated later, it tells a number -/
def TIntH (tp : Addr) (σ : L2.St) (H0 : Hp) (t : TE) (k : Int) : Prop := ∀ H Q, But tp H0 H → Q (.int k) H → t σ H Q
section mk2
variable {N : Addr → Prop} {tp : Addr} {σ : L2.St} {H0 : Hp} {t : TE} {u : TA} {P P' : PyData → Prop} {d : PyData}
theorem mk_tiH {k : Int} (h : TIntH tp σ H0 t k) : MkE N tp σ H0 t (· = .int k) := fun H Q b n q => h H _ b (q H _ _ (But.refl tp H) n (.int k) rfl)
theorem mk_pickH {K : PySem.W.Frag} {t1 t2 ti : TE} {P : PyData → Prop} {d1 d2 : PyData} (h1 : MkE N tp σ H0 t1 (· = d1)) (h2 : MkE N tp σ H0 t2 (· = d2)) (hi : ∃ c : Bool, TIntH tp σ H0 ti (if c then 1 else 0) ∧ P (if c then d2 else d1)) : MkE N tp σ H0 (tOp (rIxL K) (tLst (tCons t1 (tCons t2 tNil))) ti) P := fun H Q b n q => h1 H _ b n fun H1 v d1' b1 n1 a1 p1 => h2 H1 _ (b.trans b1) n1 fun H2 v2 d2' b2 n2 a2 p2 => by
  subst p1
  subst p2
  refine ⟨(by show 2 ≤ sizeLine; decide), fun p hp => ?_⟩
  have s := same_new (o := .lst [v, v2]) hp
  obtain ⟨c, hc, hP⟩ := hi
  have b3 := (b1.trans b2).trans (But.same s)
  have n3 := n2.same s
  refine hc _ _ (b.trans b3) ?_
  cases c with
  | true => exact ⟨p, _, 1, v2, rfl, rfl, .inl (.inl upd_same), atI_nat (j := 1) rfl, q _ v2 _ b3 n3 (any_same s a2) hP⟩
  | false => exact ⟨p, _, 0, v, rfl, rfl, .inl (.inl upd_same), atI_nat (j := 0) rfl, q _ v _ b3 n3 (any_same s (any_stay (n1.st b2) a1)) hP⟩
/-- row[2], of a row -/
theorem ti_out {K : PySem.W.Frag} {i : Nat} {R : Addr} {m o : Int} {ds : List Deed} (t0 : TP H0 tp) (hr : RowAt H0 R m ds o) (e : σ[i]? = some (some (.ref R))) : TIntH tp σ H0 (tOp (rIxT K) (tVar i) (tC (.int 2))) o := fun H Q b q => by
  obtain ⟨D, rs, eR, eD, hd⟩ := (b.tape t0).row hr
  exact ⟨_, e, R, _, 2, .int o, rfl, rfl, SqT.of eR, rfl, q⟩
theorem ti_many {K : PySem.W.Frag} {i : Nat} {R : Addr} {m o : Int} {ds : List Deed} (t0 : TP H0 tp) (hr : RowAt H0 R m ds o) (e : σ[i]? = some (some (.ref R))) : TIntH tp σ H0 (tOp (rIxT K) (tVar i) (tC (.int 0))) m := fun H Q b q => by
  obtain ⟨D, rs, eR, eD, hd⟩ := (b.tape t0).row hr
  exact ⟨_, e, R, _, 0, .int m, rfl, rfl, SqT.of eR, rfl, q⟩
end mk2
theorem str_nc {v : Int} (h0 : 0 ≤ v) (h1 : v < 100) : NcB 40 3 (.str (Str.ofString (toString v))) := by
  obtain ⟨n, rfl⟩ := Int.eq_ofNat_of_zero_le h0
  have hn : n < 100 := by omega
  have key : ∀ n, n < 100 → (Str.ofString (toString ((n : Nat) : Int))).cps.size ≤ 20 ∧ ((Str.ofString (toString ((n : Nat) : Int))).cps.toList.all fun c => decide (c < 16 ^ 8)) = true := by decide +kernel
  obtain ⟨a, b⟩ := key n hn
  exact (ncb_str a b).mono (by decide) (by decide)
theorem odd_tupw {x : Str} (h : FWd x) : OddOk (.tuple [.str x]) := by
  rcases h with rfl | rfl
  · exact odd_tup1 (by decide +kernel) (by decide +kernel) (by decide +kernel)
  · exact odd_tup1 (by decide +kernel) (by decide +kernel) (by decide +kernel)
theorem odd_lstw {x : Str} (h : FWd x) : OddOk (.list [.str x]) := by
  rcases h with rfl | rfl
  · exact odd_lst1 (by decide +kernel) (by decide +kernel) (by decide +kernel)
  · exact odd_lst1 (by decide +kernel) (by decide +kernel) (by decide +kernel)
def spBs : Sp := fun vs H Q _ => ∃ (tp : Addr) (m : Nat) (x : V) (d : PyData), vs = [.ref tp, x] ∧ AnyAt (NT tp) H x d ∧ GStep m d ∧ TP H tp ∧
  ∀ H' v d, AnyAt (NT tp) H' v d → StepOk d → TP H' tp → But tp H H' → Q v H'
set_option maxHeartbeats 8000000 in
theorem ok_bs {f fG fO : Addr} {fd fdG fdO : FuncData} {k : Nat} (F : Fun K "_law_bent_step" "_law_bent_step" s_law_bent_step f fd)
    (GG : FnOk P w K mg base CX0 (k + 1) fG fdG ["tape", "many"] spDigit) (kG : PySem.W.keepIn K (.ref fG) = true) (bG : Binds K fdG ["tape", "many"] []) (gG : mg "_law_digit" = some (.ref fG))
    (GO : FnOk P w K mg base CX0 (k + 2) fO fdO ["tape", "row"] spOr) (kO : PySem.W.keepIn K (.ref fO) = true) (bO : Binds K fdO ["tape", "row"] []) (gO : mg "_law_odd_row" = some (.ref fO))
    (mn : mg "len" = none) (ml : mg "list" = none) (mst : mg "str" = none) (mI : mg "int" = none) (mB : mg "bool" = none) : FnOk P w K mg base CX0 (k + 3) f fd ["tape", "step"] spBs := by
  refine F.ok sc_law_bent_step (fun vs H Q E h => ?_) (fun cdv A outer s H vs Q E hr h => ?_)
  · obtain ⟨tp, m, x, d, rfl, _⟩ := h
    rfl
  · obtain ⟨tp, m, x, d, rfl, hx, ⟨e, ds, o, fe, v0, v1, ok, rfl⟩, tt, q⟩ := h
    have R1 := hr.mono (show k + 1 ≤ k + 2 by omega)
    have l8 := ok.len
    have m1 := ok.m1
    have m3 := ok.m3
    have o0 := ok.o0
    have o1 := ok.o1
    cases hx with
    | @tup T xs _ nT eT hxs =>
    cases hxs with
    | @cons x1 _ _ _ h1 hxs =>
    cases hxs with
    | @cons x2 _ _ _ h2 hxs =>
    cases hxs with
    | @cons x3 _ _ _ h3 hxs =>
    cases hxs
    obtain rfl := any_str h1
    obtain rfl := any_int h2
    obtain ⟨R, rfl, hrow⟩ := row_any h3
    refine ⟨_, pss_cons (ps_asg (pv 1) (pg_tup rfl (pgs_cons (pg_name (i := 2) sc_law_bent_step.nd rfl (.inl rfl)) (pgs_cons (pg_name (i := 3) sc_law_bent_step.nd rfl (.inl rfl)) (pgs_cons (pg_name (i := 4) sc_law_bent_step.nd rfl (.inl rfl)) pgs_nil)))))
    (pss_cons (ps_set (i := 5) sc_law_bent_step.nd rfl (.inl rfl) (pe_call GG R1 (by rfl) gG kG bG .nil pass0 (pa_cons (pv 0) (pa_cons pe_int pa_nil))))
    (pss_cons (ps_if (pt_cmpR op_gt (pv 5) pe_int (nomark _))
    (pss_one (ps_ret (pe_tup (pa_cons (pv 2) (pa_cons (pv 3) (pa_cons (pe_call GO hr (by rfl) gO kO bO .nil pass0 (pa_cons (pv 0) (pa_cons (pv 4) pa_nil))) pa_nil))))))
    pss_nil)
    (pss_cons (ps_if (pt_cmpR op_gt (pv 5) pe_int (nomark _))
    (pss_cons (ps_set (i := 6) sc_law_bent_step.nd rfl (.inl rfl) (pe_ix ix_list (pe_K <| pe_lst (pa_cons pe_str (pa_cons pe_str (pa_cons pe_str (pa_cons pe_str (pa_cons pe_non (pa_cons pe_int (pa_cons pe_bl (pa_cons (pe_tup (pa_cons (pv 2) pa_nil)) (pa_cons (pe_lstN (pa_cons (pv 2) pa_nil)) (pa_cons pe_dnewK pa_nil))))))))))) (pe_call GG R1 (by rfl) gG kG bG .nil pass0 (pa_cons (pv 0) (pa_cons pe_int pa_nil))) (fun _ _ => rfl)))
    (pss_cons (ps_set (i := 7) sc_law_bent_step.nd rfl (.inl rfl) (pe_ix ix_list (pe_K <| pe_lst (pa_cons pe_non (pa_cons (pe_callTy call_str_int (by rfl) mst (by decide +kernel) (pa_cons (pv 3) pa_nil)) (pa_cons (pe_tup (pa_cons (pv 3) pa_nil)) (pa_cons (pe_lstN (pa_cons (pv 3) pa_nil)) (pa_cons (pe_op op_powW pe_int pe_int) (pa_cons (pe_un un_neg pe_int) (pa_cons pe_dnewK (pa_cons pe_str pa_nil))))))))) (pe_call GG R1 (by rfl) gG kG bG .nil pass0 (pa_cons (pv 0) (pa_cons pe_int pa_nil))) (fun _ _ => rfl)))
    (pss_one (ps_ret (pe_ix ix_list (pe_K <| pe_lst (pa_cons (pe_tup (pa_cons (pv 6) (pa_cons (pv 3) (pa_cons (pv 4) pa_nil)))) (pa_cons (pe_tup (pa_cons (pv 2) (pa_cons (pv 7) (pa_cons (pv 4) pa_nil)))) pa_nil))) (pe_op op_sub (pv 5) pe_int) (fun _ _ => rfl))))))
    pss_nil)
    (pss_cons (ps_set (i := 8) sc_law_bent_step.nd rfl (.inl rfl) (pe_K <| pe_lstN (pa_cons (pe_tup (pa_cons (pe_ix ix_list (pe_lst (pa_cons pe_str (pa_cons pe_str pa_nil))) (pe_callTy call_int1 (by rfl) mI (by decide +kernel) (pa_cons (pe_cmpR op_eq (pv 2) pe_str (nomark _)) pa_nil)) (fun _ _ => rfl)) (pa_cons (pv 3) (pa_cons (pv 4) pa_nil)))) (pa_cons (pe_tup (pa_cons (pv 2) (pa_cons (pe_op op_add (pv 3) pe_int) (pa_cons (pv 4) pa_nil)))) (pa_cons (pe_tup (pa_cons (pv 2) (pa_cons (pe_op op_sub (pv 3) pe_int) (pa_cons (pv 4) pa_nil)))) pa_nil)))))
    (pss_cons (ps_set (i := 8) sc_law_bent_step.nd rfl (.inl rfl) (pe_op op_cat (pv 8) (pe_K <| pe_lst (pa_cons (pe_tup (pa_cons (pv 2) (pa_cons (pv 3) (pa_cons (pe_tup (pa_cons (pe_ix ix_tup (pv 4) pe_int (fun _ _ => rfl)) (pa_cons (pe_ix ix_tup (pv 4) pe_int (fun _ _ => rfl)) (pa_cons (pe_op op_mod (pe_op op_add (pe_ix ix_tup (pv 4) pe_int (fun _ _ => rfl)) pe_int) (pe_op op_add (pe_ix ix_tup (pv 4) pe_int (fun _ _ => rfl)) (pe_callB call_len_seq (by rfl) mn PySem.boot_len (pa_cons (pe_ix ix_tup (pv 4) pe_int (fun _ _ => rfl)) pa_nil)))) pa_nil)))) pa_nil)))) (pa_cons (pe_tup (pa_cons (pv 2) (pa_cons (pv 3) pa_nil))) pa_nil)))))
    (pss_cons (ps_set (i := 8) sc_law_bent_step.nd rfl (.inl rfl) (pe_op op_cat (pv 8) (pe_K <| pe_lst (pa_cons (pe_tup (pa_cons (pv 2) (pa_cons (pv 3) (pa_cons (pv 4) (pa_cons (pv 4) pa_nil))))) (pa_cons (pe_lstN (pa_cons (pv 2) (pa_cons (pv 3) (pa_cons (pv 4) pa_nil)))) (pa_cons (pe_tup (pa_cons (pv 2) (pa_cons (pv 3) (pa_cons (pe_tup (pa_cons (pe_ix ix_tup (pv 4) pe_int (fun _ _ => rfl)) (pa_cons (pe_callTy call_listN (by rfl) ml (by decide +kernel) (pa_cons (pe_ix ix_tup (pv 4) pe_int (fun _ _ => rfl)) pa_nil)) (pa_cons (pe_ix ix_tup (pv 4) pe_int (fun _ _ => rfl)) pa_nil)))) pa_nil)))) pa_nil))))))
    (pss_cons (ps_expr (pe_bm PySem.F.plainAttrs_list PySem.F.slot_list_append PySem.F.type_list_append mt_append (pv 8) (pa_cons (pe_K <| pe_tup (pa_cons (pv 2) (pa_cons (pe_ix ix_list (pe_lst (pa_cons (pv 3) (pa_cons pe_bl pa_nil))) (pe_callTy call_int1 (by rfl) mI (by decide +kernel) (pa_cons (pe_cmpR op_eq (pv 3) pe_int (nomark _)) pa_nil)) (fun _ _ => rfl)) (pa_cons (pe_tup (pa_cons (pe_ix ix_tup (pv 4) pe_int (fun _ _ => rfl)) (pa_cons (pe_ix ix_tup (pv 4) pe_int (fun _ _ => rfl)) (pa_cons (pe_ix ix_list (pe_lst (pa_cons (pe_ix ix_tup (pv 4) pe_int (fun _ _ => rfl)) (pa_cons (pe_callTy call_bool1 (by rfl) mB (by decide +kernel) (pa_cons (pe_ix ix_tup (pv 4) pe_int (fun _ _ => rfl)) pa_nil)) pa_nil))) (pe_callTy call_int1 (by rfl) mI (by decide +kernel) (pa_cons (pe_cmpR op_lt (pe_ix ix_tup (pv 4) pe_int (fun _ _ => rfl)) pe_int (nomark _)) pa_nil)) (fun _ _ => rfl)) pa_nil)))) pa_nil)))) pa_nil)))
    (pss_one (ps_ret (pe_ix ix_list (pv 8) (pv 5) (fun _ _ => rfl))))))))))), ?_⟩
    refine ⟨.ref T, rfl, T, _, rfl, SqT.of eT, rfl, .str e.1, _, rfl, .int e.2, _, rfl, .ref R, [], rfl, rfl, ?_⟩
    refine ⟨.ref tp, rfl, tp, 14, rfl, by decide, by decide, tt, fun H1 z z0 z1 t1 b1 => ?_⟩
    have hrow1 := (b1.tape tt).row hrow
    obtain ⟨lkR, ncR⟩ := rowlk_row ok
    have ncv : NcB 40 3 (.int e.2) := nc_int (by omega)
    have of1 := fw_odd fe
    -- the row, whenever
    have pR : ∀ {N : Addr → Prop} {H : Hp}, RowAt H R m ds o → NGd N tp H → AnyAt N H (.ref R) (rowD m ds o) := fun h n => any_rowN (fun b xs e => n.tup e) h
    refine ⟨.int z, rfl, z, 10, rfl, rfl, _, rfl, ite2 (fun e1 => ?_) (fun e1 => ?_)⟩
    · refine ⟨.str e.1, rfl, .int e.2, rfl, .ref tp, rfl, .ref R, rfl, tp, R, m, o, ds, rfl, hrow1, ok, t1, fun H2 v d ha lk t2 b2 => ?_⟩
      refine ⟨(by show 3 ≤ sizeLine; decide), fun U hU => ?_⟩
      have sU := same_new (o := .tup [.str e.1, .int e.2, v]) hU
      exact q _ _ _ (.tup ((ngd_t t2).free hU) upd_same (.cons (.str _) (.cons (.int _) (.cons (any_same sU ha) .nil)))) (stepOk3 of1 ncv lk) (t2.same sU) ((b1.trans b2).trans (But.same sU))
    have z10 : z ≤ 10 := by
      have := of_decide_eq_false (Bool.eq_false_iff.mpr e1)
      omega
    clear e1
    refine ⟨.int z, rfl, z, 8, rfl, rfl, _, rfl, ite2 (fun e1 => ?_) (fun e1 => ?_)⟩
    · have z9 : z = 9 ∨ z = 10 := by
        have := of_decide_eq_true e1
        omega
      clear e1
      have vr := fun {H0 : Hp} (σ : L2.St) (e2 : σ[2]? = some (some (.str e.1))) => mk_var (N := NT tp) (tp := tp) (H0 := H0) rfl e2 (.str e.1)
      refine mkl_run (N := NT tp) (tp := tp) (H0 := H1) (R := fun ds => ds.length = 10 ∧ ∀ d ∈ ds, OddOk d) ?_ (But.refl tp H1) (ngd_t t1) (fun H2 qa ya ea b2 n2 nqa eqa aa ra => ?_)
      · refine mkl_lstR ?_ (fun ds h => by rw [h.1]; decide)
        refine mk_consP ((mk_str "Drop").mono fun d e => e ▸ odd_str (by decide +kernel) (by decide +kernel) (by decide +kernel)) ?_
        refine mk_consP ((mk_str "").mono fun d e => e ▸ odd_str (by decide +kernel) (by decide +kernel) (by decide +kernel)) ?_
        refine mk_consP ((mk_str "dropped").mono fun d e => e ▸ odd_str (by decide +kernel) (by decide +kernel) (by decide +kernel)) ?_
        refine mk_consP ((mk_str "sames").mono fun d e => e ▸ odd_str (by decide +kernel) (by decide +kernel) (by decide +kernel)) ?_
        refine mk_consP (mk_non.mono fun d e => e ▸ odd_non) ?_
        refine mk_consP ((mk_int 5).mono fun d e => e ▸ odd_int (by decide)) ?_
        refine mk_consP ((mk_bl true).mono fun d e => e ▸ odd_bl true) ?_
        refine mk_consP ((mk_tup (mk_cons (vr _ rfl) mk_nil) (Nat.le_of_ble_eq_true rfl)).mono fun d e => e ▸ odd_tupw fe) ?_
        refine mk_consP ((mk_lst (mk_cons (vr _ rfl) mk_nil) (Nat.le_of_ble_eq_true rfl)).mono fun d e => e ▸ odd_lstw fe) ?_
        refine mk_consP (mk_dict.mono fun d e => e ▸ odd_dict) ?_
        exact mk_nilP
      · have t2 := n2.tape
        refine ⟨.ref tp, rfl, tp, 10, rfl, by decide, by decide, t2, fun H3 i i0 i1 t3 b3 => ?_⟩
        obtain ⟨j, rfl⟩ := Int.eq_ofNat_of_zero_le i0
        have jl : j < ya.length := by
          rw [all_len aa, ra.1]
          omega
        obtain ⟨dO, hdO, haO⟩ := all_get aa (List.getElem?_eq_getElem jl)
        have oO := ra.2 dO (List.mem_of_getElem? hdO)
        obtain ⟨xO, hxO⟩ : ∃ xO, xO = ya[j] := ⟨_, rfl⟩
        rw [← hxO] at haO
        refine ⟨qa, ya, ((j : Nat) : Int), xO, rfl, rfl, .inl (.inl (b3 _ _ nqa eqa)), hxO ▸ atI_nat (List.getElem?_eq_getElem jl), ?_⟩
        have haO3 : AnyAt (NT tp) H3 xO dO := any_stay (fun c u nc e => b3 c u nc e) haO
        have b13 := b2.trans b3
        clear aa eqa hxO haO hdO ra
        refine mkl_run (N := NT tp) (tp := tp) (H0 := H3) (R := fun ds => ds.length = 8 ∧ ∀ d ∈ ds, NcB 40 3 d) ?_ (But.refl tp H3) (ngd_t t3) (fun H4 qb yb eb b4 n4 nqb eqb ab rb => ?_)
        · refine mkl_lstR ?_ (fun ds h => by rw [h.1]; decide)
          refine mk_consP (mk_non.mono fun d e => e ▸ ncb_non.mono (by decide) (by decide)) ?_
          refine mk_consP (MkE.mono (P := (· = .str (Str.ofString (toString e.2)))) (fun H Q b n q => ⟨_, rfl, _, rfl, by
            have : e.2.natAbs < 2 ^ 100 := by omega
            by_cases z0 : e.2.natAbs = 0
            · rw [z0]; decide
            · have := (Nat.log2_lt z0).mpr this
              omega, q H _ _ (But.refl tp H) n (.str _) rfl⟩) fun d e => e ▸ str_nc v0 v1) ?_
          refine mk_consP ((mk_tup (mk_cons (mk_ti (ti_var rfl)) mk_nil) (Nat.le_of_ble_eq_true rfl)).mono fun d e => e ▸ (ncl_tup (ncl_cons (ncb_int (by omega)) (ncl_nil (b := 0)))).mono (by decide) (by decide)) ?_
          refine mk_consP ((mk_lst (mk_cons (mk_ti (ti_var rfl)) mk_nil) (Nat.le_of_ble_eq_true rfl)).mono fun d e => e ▸ (ncl_lst (ncl_cons (ncb_int (by omega)) (ncl_nil (b := 0)))).mono (by decide) (by decide)) ?_
          refine mk_consP ((mk_ti (k := 10 ^ 30) fun H Q q => ⟨10, 30, rfl, rfl, ⟨by decide, by decide⟩, q⟩).mono fun d e => e ▸ nc_int (by decide)) ?_
          refine mk_consP ((mk_ti (k := -1) fun H Q q => ⟨1, rfl, q⟩).mono fun d e => e ▸ nc_int (by decide)) ?_
          refine mk_consP (mk_dict.mono fun d e => e ▸ ncb_dict.mono (by decide) (by decide)) ?_
          refine mk_consP ((mk_str "drop").mono fun d e => e ▸ (ncb_str (n := 4) (by decide +kernel) (by decide +kernel)).mono (by decide) (by decide)) ?_
          exact mk_nilP
        · have t4 := n4.tape
          refine ⟨.ref tp, rfl, tp, 8, rfl, by decide, by decide, t4, fun H5 i i0 i1 t5 b5 => ?_⟩
          obtain ⟨j2, rfl⟩ := Int.eq_ofNat_of_zero_le i0
          have jl2 : j2 < yb.length := by
            rw [all_len ab, rb.1]
            omega
          obtain ⟨dV, hdV, haV⟩ := all_get ab (List.getElem?_eq_getElem jl2)
          have nV := rb.2 dV (List.mem_of_getElem? hdV)
          obtain ⟨xV, hxV⟩ : ∃ xV, xV = yb[j2] := ⟨_, rfl⟩
          rw [← hxV] at haV
          refine ⟨qb, yb, ((j2 : Nat) : Int), xV, rfl, rfl, .inl (.inl (b5 _ _ nqb eqb)), hxV ▸ atI_nat (List.getElem?_eq_getElem jl2), ?_⟩
          have haV5 : AnyAt (NT tp) H5 xV dV := any_stay (fun c u nc e => b5 c u nc e) haV
          have b35 := b4.trans b5
          have haO5 : AnyAt (NT tp) H5 xO dO := any_stay (fun c u nc e => b35 c u nc e) haO3
          clear ab eqb hxV haV hdV rb
          have b15 := b13.trans b35
          have hrow5 := (b15.tape t1).row hrow1
          have vR := fun (σ : L2.St) (e : σ[4]? = some (some (.ref R))) => mk_var (N := NT tp) (tp := tp) (H0 := H5) rfl e (pR hrow5 (ngd_t t5))
          refine mkl_run (N := NT tp) (tp := tp) (H0 := H5) (R := fun ds => ds.length = 2 ∧ ∀ d ∈ ds, StepOk d) ?_ (But.refl tp H5) (ngd_t t5) (fun H6 qc yc ec b6 n6 nqc eqc ac rc => ?_)
          · refine mkl_lstR ?_ (fun ds h => by rw [h.1]; decide)
            refine mk_consP ((mk_tup (mk_cons (mk_var (N := NT tp) rfl rfl haO5) (mk_cons (mk_ti (ti_var rfl)) (mk_cons (vR _ rfl) mk_nil))) (Nat.le_of_ble_eq_true rfl)).mono fun d e => e ▸ stepOk3 oO ncv lkR) ?_
            refine mk_consP ((mk_tup (mk_cons (vr _ rfl) (mk_cons (mk_var (N := NT tp) rfl rfl haV5) (mk_cons (vR _ rfl) mk_nil))) (Nat.le_of_ble_eq_true rfl)).mono fun d e => e ▸ stepOk3 of1 nV lkR) ?_
            exact mk_nilP
          · obtain ⟨j3, hj3, hz⟩ : ∃ j3 : Nat, j3 < 2 ∧ z - 9 = (j3 : Int) := by
              rcases z9 with rfl | rfl
              · exact ⟨0, by decide, rfl⟩
              · exact ⟨1, by decide, rfl⟩
            have jl3 : j3 < yc.length := by
              rw [all_len ac, rc.1]
              exact hj3
            obtain ⟨dS, hdS, haS⟩ := all_get ac (List.getElem?_eq_getElem jl3)
            refine ⟨.int z, rfl, z, 9, rfl, rfl, qc, yc, z - 9, yc[j3], rfl, rfl, .inl (.inl eqc), by rw [hz]; exact atI_nat (List.getElem?_eq_getElem jl3), ?_⟩
            exact q H6 _ dS haS (rc.2 dS (List.mem_of_getElem? hdS)) n6.tape (b1.trans (b15.trans b6))
    · have z8 : z ≤ 8 := by
        have := of_decide_eq_false (Bool.eq_false_iff.mpr e1)
        omega
      clear e1
      have bD : SZ 72 2 (.tuple (ds.map deedD)) := sz_tup (szl_deeds ok)
      have sm : SZ 0 0 (.int (m : Int)) := sz_int (by omega) (by omega)
      have so : SZ 0 0 (.int o) := sz_int o0 (by omega)
      have vac : ∀ {d : PyData}, NcB 400 8 d → (∀ a b c, d ≠ .tuple [a, b, c]) → StepOk d := fun n h => ⟨n, fun a b c e => absurd e (h a b c)⟩
      have nr := ncR.mono (show 75 ≤ 75 by decide) (show 3 ≤ 6 by decide)
      have nx := (fw_nc fe).mono (Nat.le_refl _) (show 0 ≤ 6 by decide)
      have nv := (ncb_int (i := e.2) (by omega)).mono (Nat.le_refl _) (show 0 ≤ 6 by decide)
      have other : ∀ c : Bool, FWd (if c then "drop" else "same") := fun c => by cases c with | true => exact .inl rfl | false => exact .inr rfl
      have vr := fun {H0 : Hp} (N : Addr → Prop) (nt : N tp) (σ : L2.St) (e2 : σ[2]? = some (some (.str e.1))) => mk_var (N := N) (tp := tp) (H0 := H0) nt e2 (.str e.1)
      have vR := fun {N : Addr → Prop} {H0 : Hp} (hr0 : RowAt H0 R m ds o) (n0 : NGd N tp H0) (σ : L2.St) (e : σ[4]? = some (some (.ref R))) => mk_var (N := N) (tp := tp) (H0 := H0) n0.t e (pR hr0 n0)
      change tSeq (tAsg _ _) _ _ _ _
      refine step_seq (step_asg ?_)
      refine gl_new (H0 := H1) (n := 3) (P := StepOk) (tp := tp) ?_ (by decide) t1 (But.refl tp H1) (fun H2 p np g b2 => ?_)
      · obtain ⟨c1, hc1⟩ : ∃ c1 : Bool, c1 = decide (V.str e.1 = V.str "same") := ⟨_, rfl⟩
        refine mk_consP ((mk_tup (mk_cons (mk_pick (d1 := .str "same") (d2 := .str "drop") (P := (· = .str (if c1 then "drop" else "same"))) (mk_str "same") (mk_str "drop") ⟨c1, fun H Q q => ⟨.str e.1, rfl, rfl, Or.inr ⟨_, rfl, hc1 ▸ q⟩⟩, by cases c1 <;> rfl⟩) (mk_cons (mk_ti (ti_var rfl)) (mk_cons (vR hrow1 (ngd_t t1) _ rfl) mk_nil))) (Nat.le_of_ble_eq_true rfl)).mono fun d e => e ▸ stepOk3 (fw_odd (other c1)) ncv lkR) ?_
        refine mk_consP ((mk_tup (mk_cons (vr (NT tp) rfl _ rfl) (mk_cons (mk_ti (ti_add1 rfl)) (mk_cons (vR hrow1 (ngd_t t1) _ rfl) mk_nil))) (Nat.le_of_ble_eq_true rfl)).mono fun d e => e ▸ stepOk3 of1 (nc_int (by omega)) lkR) ?_
        refine mk_consP ((mk_tup (mk_cons (vr (NT tp) rfl _ rfl) (mk_cons (mk_ti (k := e.2 - 1) fun H Q q => ⟨_, rfl, e.2, 1, rfl, rfl, q⟩) (mk_cons (vR hrow1 (ngd_t t1) _ rfl) mk_nil))) (Nat.le_of_ble_eq_true rfl)).mono fun d e => e ▸ stepOk3 of1 (nc_int (by omega)) lkR) ?_
        exact mk_nilP
      have t2 := g.2.1
      have hrow2 := (b2.tape t1).row hrow1
      refine ⟨.ref p, rfl, ?_⟩
      refine mkl_run (N := NT tp) (tp := tp) (H0 := H2) (R := fun ds => ds.length = 2 ∧ ∀ d ∈ ds, StepOk d) ?_ (But.refl tp H2) (ngd_t t2) (fun H3 q3 y3 e3 b3 n3 nq3 eq3 a3 r3 => ?_)
      · refine mkl_lstR ?_ (fun ds h => by rw [h.1]; decide)
        have pos : 0 < (m : Int) + (ds.length : Int) := by omega
        refine mk_consP ((mk_tup (mk_cons (vr (NT tp) rfl _ rfl) (mk_cons (mk_ti (ti_var rfl)) (mk_cons (mk_tup (mk_cons (mk_ixT (j := 0) (vR hrow2 (ngd_t t2) _ rfl) (ti_c 0) rfl) (mk_cons (mk_ixT (j := 1) (vR hrow2 (ngd_t t2) _ rfl) (ti_c 1) rfl) (mk_cons (mk_tiH (k := (o + 1) % ((m : Int) + (ds.length : Int))) fun H Q b q => ?_) mk_nil))) (Nat.le_of_ble_eq_true rfl)) mk_nil))) (Nat.le_of_ble_eq_true rfl)).mono fun d e => e ▸ stepOk3 of1 ncv (rowlk3 (sm.mono (by decide) (Nat.le_refl _)) (bD.mono (Nat.le_refl _) (by decide)) ((sz_int (Int.emod_nonneg _ (by omega)) (by have := Int.emod_lt_of_pos (o + 1) pos; omega)).mono (by decide) (Nat.le_refl _)) (by decide))) ?_
        · obtain ⟨D, rs, eR, eD, hd⟩ := (b.tape t2).row hrow2
          have rl := awLen hd
          refine ⟨_, rfl, R, _, 2, .int o, rfl, rfl, SqT.of eR, rfl, o, 1, rfl, rfl, _, rfl, R, _, 0, .int (m : Int), rfl, rfl, SqT.of eR, rfl, _, rfl, R, _, 1, .ref D, rfl, rfl, SqT.of eR, rfl, D, _, rfl, .inr (SqT.of eD), (m : Int), _, rfl, rfl, o + 1, _, rfl, rfl, ?_, ?_⟩
          · rw [List.length_map, rl]
            exact pos
          · rw [List.length_map, rl]
            exact q
        refine mk_consP ((mk_tup (mk_cons (vr (NT tp) rfl _ rfl) (mk_cons (mk_ti (ti_var rfl)) mk_nil)) (Nat.le_of_ble_eq_true rfl)).mono fun d e => e ▸ vac ((ncl_tup (ncl_cons nx (ncl_cons nv (ncl_nil (b := 0))))).mono (by decide) (by decide)) (fun a b c z => by simp at z)) ?_
        exact mk_nilP
      have t3 := n3.tape
      refine gl_cat (k := 2) (g.but b3 t3) eq3 a3 r3.1 r3.2 (by decide) (fun H4 p4 s4 g4 => ?_)
      have t4 := g4.2.1
      have b24 := b3.trans (But.same s4)
      have hrow4 := (b24.tape t2).row hrow2
      refine ⟨.ref p4, rfl, ?_⟩
      refine mkl_run (N := NT tp) (tp := tp) (H0 := H4) (R := fun ds => ds.length = 3 ∧ ∀ d ∈ ds, StepOk d) ?_ (But.refl tp H4) (ngd_t t4) (fun H5 q5 y5 e5 b5 n5 nq5 eq5 a5 r5 => ?_)
      · refine mkl_lstR ?_ (fun ds h => by rw [h.1]; decide)
        refine mk_consP ((mk_tup (mk_cons (vr (NT tp) rfl _ rfl) (mk_cons (mk_ti (ti_var rfl)) (mk_cons (vR hrow4 (ngd_t t4) _ rfl) (mk_cons (vR hrow4 (ngd_t t4) _ rfl) mk_nil)))) (Nat.le_of_ble_eq_true rfl)).mono fun d e => e ▸ vac ((ncl_tup (ncl_cons nx (ncl_cons nv (ncl_cons nr (ncl_cons nr (ncl_nil (b := 0))))))).mono (by decide) (by decide)) (fun a b c z => by simp at z)) ?_
        refine mk_consP ((mk_lst (mk_cons (vr (NT tp) rfl _ rfl) (mk_cons (mk_ti (ti_var rfl)) (mk_cons (vR hrow4 (ngd_t t4) _ rfl) mk_nil))) (Nat.le_of_ble_eq_true rfl)).mono fun d e => e ▸ vac ((ncl_lst (ncl_cons nx (ncl_cons nv (ncl_cons nr (ncl_nil (b := 0)))))).mono (by decide) (by decide)) (fun a b c z => by cases z)) ?_
        refine mk_consP ((mk_tup (mk_cons (vr (NT tp) rfl _ rfl) (mk_cons (mk_ti (ti_var rfl)) (mk_cons (mk_tup (mk_cons (mk_ixT (j := 0) (vR hrow4 (ngd_t t4) _ rfl) (ti_c 0) rfl) (mk_cons (mk_list (mk_ixT (j := 1) (vR hrow4 (ngd_t t4) _ rfl) (ti_c 1) rfl)) (mk_cons (mk_ixT (j := 2) (vR hrow4 (ngd_t t4) _ rfl) (ti_c 2) rfl) mk_nil))) (Nat.le_of_ble_eq_true rfl)) mk_nil))) (Nat.le_of_ble_eq_true rfl)).mono fun d e => e ▸ stepOk3 of1 ncv (rowlk3 (sm.mono (by decide) (Nat.le_refl _)) ((sz_lst (szl_deeds ok)).mono (Nat.le_refl _) (by decide)) (so.mono (by decide) (Nat.le_refl _)) (by decide))) ?_
        exact mk_nilP
      have t5 := n5.tape
      refine gl_cat (k := 3) (g4.but b5 t5) eq5 a5 r5.1 r5.2 (by decide) (fun H6 p6 s6 g6 => ?_)
      have t6 := g6.2.1
      have b46 := b5.trans (But.same s6)
      have hrow6 := (b46.tape t4).row hrow4
      obtain ⟨xs6, ds6, k1, k2, k3, k4⟩ := g6.2.2.2.2
      obtain ⟨c1, hc1⟩ : ∃ c1 : Bool, c1 = decide (V.int e.2 = V.int 1) := ⟨_, rfl⟩
      obtain ⟨c2, hc2⟩ : ∃ c2 : Bool, c2 = decide (o < 2) := ⟨_, rfl⟩
      refine ⟨.ref p6, rfl, .inl ⟨rfl, _, .inl (.inl k1)⟩, ?_⟩
      refine step_cons (mk_run (N := NC tp p6) (tp := tp) (H0 := H6) (P := StepOk) ?_ (But.refl tp H6) g6.ngd (fun H7 v7 d7 b7 n7 a7 pd7 => ?_))
      · refine (mk_tup (mk_cons (vr (NC tp p6) (.inl rfl) _ rfl) (mk_cons (mk_pick (d1 := .int e.2) (d2 := .bool true) (P := (· = if c1 then .bool true else .int e.2)) (mk_ti (ti_var rfl)) (mk_bl true) ⟨c1, fun H Q q => ⟨.int e.2, rfl, rfl, .inr ⟨_, rfl, hc1 ▸ q⟩⟩, rfl⟩) (mk_cons (mk_tup (mk_cons (mk_ixT (j := 0) (vR hrow6 g6.ngd _ rfl) (ti_c 0) rfl) (mk_cons (mk_ixT (j := 1) (vR hrow6 g6.ngd _ rfl) (ti_c 1) rfl) (mk_cons (mk_pickH (d1 := .int o) (d2 := .bool (o != 0)) (P := (· = if c2 then .bool (o != 0) else .int o)) (mk_ixT (j := 2) (vR hrow6 g6.ngd _ rfl) (ti_c 2) rfl) (fun H Q b n q => ?_) ⟨c2, fun H Q b q => ?_, rfl⟩) mk_nil))) (Nat.le_of_ble_eq_true rfl)) mk_nil))) (Nat.le_of_ble_eq_true rfl)).mono fun d e => e ▸ stepOk3 of1 ?_ (rowlk3 (sm.mono (by decide) (Nat.le_refl _)) (bD.mono (Nat.le_refl _) (by decide)) ?_ (by decide))
        · obtain ⟨D, rs, eR, eD, hd⟩ := (b.tape t6).row hrow6
          exact ⟨_, rfl, R, _, 2, .int o, rfl, rfl, SqT.of eR, rfl, .inl ⟨o, rfl, q H _ _ (But.refl tp H) n (.bl _) rfl⟩⟩
        · obtain ⟨D, rs, eR, eD, hd⟩ := (b.tape t6).row hrow6
          exact ⟨_, rfl, R, _, 2, .int o, rfl, rfl, SqT.of eR, rfl, o, 2, rfl, rfl, .inr ⟨_, rfl, hc2 ▸ q⟩⟩
        · cases c1 with
          | true => exact (ncb_bl true).mono (by decide) (by decide)
          | false => exact ncv
        · cases c2 with
          | true => exact (sz_bl _).mono (by decide) (Nat.le_refl _)
          | false => exact so.mono (by decide) (Nat.le_refl _)
      obtain ⟨xs7, f1, f2, g7⟩ := gl_snoc g6 (by decide) b7 n7.tape a7 pd7
      refine ⟨p6, _, _, rfl, rfl, f1, f2, ?_⟩
      obtain ⟨h1, t8, h3, h4, xs8, ds8, l1, l2, l3, l4⟩ := g7
      obtain ⟨j, rfl⟩ := Int.eq_ofNat_of_zero_le z0
      have jl : j < xs8.length := by
        rw [all_len l2, l3]
        omega
      obtain ⟨d, hd, ha⟩ := all_get l2 (List.getElem?_eq_getElem jl)
      refine ⟨.ref p6, rfl, .int ((j : Nat) : Int), rfl, p6, xs8, ((j : Nat) : Int), xs8[j], rfl, rfl, .inl (.inl l1), atI_nat (List.getElem?_eq_getElem jl), ?_⟩
      exact q _ _ d (any_more (fun b u n _ => .inl n) ha) (l4 d (List.mem_of_getElem? hd)) t8 (b1.trans h1)
/-! ### xs[::-1] -/
section revs
variable {X : Cx} {e st : Expr} {te ts : TE} {pos p2 : Pos}
theorem range_get {α : Type} : ∀ l : List α, (List.range l.length).filterMap (l[·]?) = l
  | [] => rfl
  | x :: l => by
    rw [List.length_cons, List.range_succ_eq_map, List.filterMap_cons]
    show x :: ((List.range l.length).map Nat.succ).filterMap _ = _
    rw [List.filterMap_map]
    congr 1
    exact range_get l
theorem fm_congr {α β : Type} {f g : α → Option β} : ∀ l : List α, (∀ x ∈ l, f x = g x) → l.filterMap f = l.filterMap g
  | [], _ => rfl
  | x :: l, h => by
    rw [List.filterMap_cons, List.filterMap_cons, h x List.mem_cons_self, fm_congr l fun y hy => h y (List.mem_cons_of_mem _ hy)]
theorem slicePick_rev (its : List Value) : slicePick its.toArray none none (some (-1)) = its.reverse.toArray := by
  unfold slicePick
  congr 1
  have hb : sliceBounds none none (some (-1)) its.toArray.size = ((its.length : Int) - 1, -1, -1) := by
    simp [sliceBounds]
  rw [hb]
  unfold sliceRange
  have hc : (if (-1 : Int) > 0 then (if ((its.length : Int) - 1) < -1 then (-1 - ((its.length : Int) - 1) + -1 - 1) / -1 else 0) else (if ((its.length : Int) - 1) > -1 then (((its.length : Int) - 1) - -1 - -1 - 1) / (- -1) else 0)) = (its.length : Int) := by
    rw [if_neg (by decide)]
    by_cases h : ((its.length : Int) - 1) > -1
    · rw [if_pos h, show (- -1 : Int) = 1 by decide, Int.ediv_one]
      omega
    · rw [if_neg h]
      omega
  show ((List.range (if (-1 : Int) > 0 then (if ((its.length : Int) - 1) < -1 then (-1 - ((its.length : Int) - 1) + -1 - 1) / -1 else 0) else (if ((its.length : Int) - 1) > -1 then (((its.length : Int) - 1) - -1 - -1 - 1) / (- -1) else 0)).toNat).map fun (k : Nat) => ((its.length : Int) - 1 + -1 * (k : Int)).toNat).filterMap (its.toArray[·]?) = its.reverse
  rw [hc, Int.toNat_natCast, List.filterMap_map]
  have e := range_get its.reverse
  rw [List.length_reverse] at e
  refine Eq.trans (fm_congr _ fun k hk => ?_) e
  have hk' := List.mem_range.mp hk
  show its.toArray[((its.length : Int) - 1 + -1 * (k : Int)).toNat]? = its.reverse[k]?
  rw [List.getElem?_toArray, List.getElem?_reverse hk']
  congr 1
  omega
def tRev (K : PySem.W.Frag) (te ts : TE) : TE := fun σ H Q => te σ H fun x H1 => ts σ H1 fun y H2 => ∃ a xs, y = .int (-1) ∧ x = .ref a ∧ SqL K H2 a xs ∧ ∀ p, H2 p = none → Q (.ref p) (upd H2 p (.lst xs.reverse))
theorem pe_rev (he : PE X e te) (hs : PE X st ts) : PE X (.Subscript e (.Slice none none (some st) p2) pos) (tRev X.K te ts) := by
  refine ⟨fun pins s σ H Q I h => ?_⟩
  refine Subscript_ (thn (he.run pins s σ H _ I h) ?_)
  rintro v s1 ⟨x, H1, I1, r1, q1⟩
  apply wpAny_Slice
  rw [evalPart_none]
  refine wpAny_pure ?_
  refine wpAny_pure ?_
  rw [evalPart_some]
  refine thn (hs.run pins s1 σ H1 _ I1 q1) ?_
  rintro vs s3 ⟨y, H3, I3, ry, a, xs, rfl, rfl, hx, q3⟩
  obtain ⟨tk, rfl⟩ := ry
  cases r1
  have I4 : Inv X pins σ H3 { s3 with heap := s3.heap.push { cls := .type "slice", data := .fields #[.none, .none, .int (-1) tk] } } := I3.kept (t' := s3.toks) fun b ob q => Heap.get?_push_of_some _ q
  obtain ⟨its, r, ht, hz⟩ := I4.list hx
  have hlen := r.length
  show wpAny (model X.prog X.w) X.A (subscriptTail e (.Slice none none (some st) p2) (.ref a) (.ref s3.heap.objs.size)) (EP X pins σ Q) X.xe { s3 with heap := s3.heap.push { cls := .type "slice", data := .fields #[.none, .none, .int (-1) tk] } }
  refine tail_any (ops := [.ref a, .ref s3.heap.objs.size]) ht.isList.typeIs slot_list_getitem.lookup ?_ (by with_unfolding_all rfl)
  refine wpAny_getItem_list_slice ht.isList (Heap.IsSliceOf.new ..) .none .none (.int (-1) tk) (by decide) ?_ (by rw [List.size_toArray] <;> omega)
  rw [slicePick_rev]
  refine ⟨.ref _, _, I4.laid (t' := s3.toks) (o := .lst xs.reverse) (fun b ob q => Heap.get?_push_of_some _ q) (Nat.le_refl _) ?_, rfl, q3 _ ?_⟩
  · exact ⟨by rw [List.length_reverse]; exact hz, _, 0, r.reverse, Heap.get?_push_size _ rfl⟩
  · exact I4.hok.fresh (Nat.le_refl _)
end revs
/-! ### k56: _law_bent -/
/-- list + list: a new list, at no address of the machine's own -/
def rCatN : R2 := fun x y H Q => ∃ l b xs zs, x = .ref l ∧ y = .ref b ∧ H l = some (.lst xs) ∧ H b = some (.lst zs) ∧ xs.length + zs.length ≤ sizeLine ∧ ∀ p, H p = none → p ≠ sysModules → Q (.ref p) (upd H p (.lst (xs ++ zs)))
theorem op_catN {X : Cx} : OpR X (binaryOp .Add) rCatN := by
  intro pins s σ H x y v u Q I rx ry h
  obtain ⟨l, b, xs, zs, rfl, rfl, hH, hB, hz, q⟩ := h
  cases rx
  cases ry
  obtain ⟨z, its, n, r, hl, e⟩ := I.lstM hH
  obtain ⟨z2, its2, n2, r2, hl2, e2⟩ := I.lstM hB
  have big : sysModules < s.heap.objs.size := I.big
  refine PySem.P.add_list e e2 ?_ (by rw [List.size_toArray, List.size_toArray]; omega)
  have ea : its.toArray ++ its2.toArray = (its ++ its2).toArray := by simp
  rw [ea]
  exact ⟨.ref _, _, I.lnew (t' := s.toks) (r.append r2) (by rw [List.length_append]; omega), rfl, q _ I.fresh (Nat.ne_of_gt big)⟩
/-- steps, not too many signs -/
structure LOk (B : Nat) (es : List PyData) : Prop where
  nc : NcL B 8 es
  lk : ∀ s ∈ es, StepLk s
theorem LOk.mono {B B' : Nat} {es : List PyData} (h : LOk B es) (hb : B ≤ B') : LOk B' es := ⟨h.nc.mono hb (Nat.le_refl _), h.lk⟩
theorem ncl_len {b k : Nat} {xs : List PyData} (h : NcL b k xs) : xs.length ≤ b := by
  induction xs generalizing b with
  | nil => exact Nat.zero_le _
  | cons x xs ih =>
    obtain ⟨b1, b2, h1, h2, h3⟩ := ncl_cut h
    have := ih h2
    rw [List.length_cons]
    omega
theorem lok_app {B1 B2 : Nat} {xs ys : List PyData} (h : LOk B1 xs) (g : LOk B2 ys) : LOk (B1 + B2) (xs ++ ys) := ⟨ncl_app h.nc g.nc, fun s hs => by
  rcases List.mem_append.mp hs with hs | hs
  · exact h.lk s hs
  · exact g.lk s hs⟩
theorem lok_drop {B : Nat} {xs : List PyData} (k : Nat) (h : LOk B xs) : LOk B (xs.drop k) := ⟨ncl_drop k h.nc, fun s hs => h.lk s (List.mem_of_mem_drop hs)⟩
theorem lok_take {B : Nat} {xs : List PyData} (k : Nat) (h : LOk B xs) : LOk B (xs.take k) := ⟨ncl_take k h.nc, fun s hs => h.lk s (List.mem_of_mem_take hs)⟩
theorem lok_rev {B : Nat} {xs : List PyData} (h : LOk B xs) : LOk B xs.reverse := ⟨ncl_rev h.nc, fun s hs => h.lk s (List.mem_reverse.mp hs)⟩
theorem all_reverse {N : Addr → Prop} {H : Hp} {xs : List V} {ds : List PyData} (h : AnyAll N H xs ds) : AnyAll N H xs.reverse ds.reverse := by
  induction xs generalizing ds with
  | nil => cases h; exact .nil
  | cons x xs ih =>
    cases h with
    | cons h t =>
      rw [List.reverse_cons, List.reverse_cons]
      exact all_app (ih t) (.cons h .nil)
/-- a part of a slice, whatever it is -/
def PartOk (σ : L2.St) (tl : TO) : Prop := ∀ H Q, (∀ o, Q o H) → tl σ H Q
theorem po_no {σ : L2.St} : PartOk σ tNoPart := fun H Q q => q none
theorem po_ti {σ : L2.St} {t : TE} {k : Int} (h : TInt σ t k) : PartOk σ (tPart t) := fun H Q q => h H _ ⟨k, rfl, q (some k)⟩
section mkl3
variable {N : Addr → Prop} {tp : Addr} {σ : L2.St} {H0 : Hp} {t t2 : TE} {B B2 : Nat}
theorem mkl_var {i : Nat} {C : Addr} {l : List PyData} {R : List PyData → Prop} (nt : N tp) (e : σ[i]? = some (some (.ref C))) (h : AnyAt N H0 (.ref C) (.list l)) (r : R l) : MkL N tp σ H0 (tVar i) R := fun H Q b n q => by
  have h2 := any_stay (fun c u z e => b c u (fun y => z (y ▸ nt)) e) h
  cases h2 with
  | lst nc ns eC hx => exact ⟨_, e, q H C _ l (But.refl tp H) n (fun z => nc (z ▸ nt)) eC hx r⟩
theorem mkl_sl {K : PySem.W.Frag} {tl th : TO} (h : MkL N tp σ H0 t (LOk B)) (hl : PartOk σ tl) (hh : PartOk σ th) : MkL N tp σ H0 (tSl (rSlL K) t tl th) (LOk B) := fun H Q b n q => h H _ b n fun H1 p ys es b1 n1 np e1 a1 p1 => by
  refine hl H1 _ fun o1 => hh H1 _ fun o2 => ?_
  refine ⟨p, ys, rfl, .inl (.inl e1), fun r hr => ?_⟩
  have s := same_new (o := .lst (cutV ys o1 o2)) hr
  exact q _ r _ ((es.drop (HT.sIx ys.length 0 o1)).take (HT.sIx ys.length ys.length o2 - HT.sIx ys.length 0 o1)) (b1.trans (But.same s)) (n1.same s) (n1.tape.ne_new hr) upd_same (all_stay (same_but7 s) (all_take _ (all_drop _ a1))) (lok_take _ (lok_drop _ p1))
theorem mkl_rev {K : PySem.W.Frag} {ts : TE} (h : MkL N tp σ H0 t (LOk B)) (hs : TInt σ ts (-1)) : MkL N tp σ H0 (tRev K t ts) (LOk B) := fun H Q b n q => h H _ b n fun H1 p ys es b1 n1 np e1 a1 p1 => by
  refine hs H1 _ ⟨p, ys, rfl, rfl, .inl (.inl e1), fun r hr => ?_⟩
  have s := same_new (o := .lst ys.reverse) hr
  exact q _ r _ es.reverse (b1.trans (But.same s)) (n1.same s) (n1.tape.ne_new hr) upd_same (all_stay (same_but7 s) (all_reverse a1)) (lok_rev p1)
theorem cat_goes {H : Hp} {p q : Addr} {xs ys : List V} {ds es : List PyData} {Q : VK} (n : NGd N tp H) (e1 : H p = some (.lst xs)) (e2 : H q = some (.lst ys)) (a1 : AnyAll N H xs ds) (a2 : AnyAll N H ys es) (h1 : LOk B ds) (h2 : LOk B2 es) (hb : B + B2 ≤ 100000) (qq : ∀ H' r, Same H H' → r ≠ tp → r ≠ sysModules → ¬ N r → H' r = some (.lst (xs ++ ys)) → AnyAll N H' (xs ++ ys) (ds ++ es) → LOk (B + B2) (ds ++ es) → Q (.ref r) H') : rCatN (.ref p) (.ref q) H Q := by
  have l1 := ncl_len h1.nc
  have l2 := ncl_len h2.nc
  refine ⟨p, q, xs, ys, rfl, rfl, e1, e2, by rw [all_len a1, all_len a2, sizeLine_eq]; omega, fun r hr ns => ?_⟩
  have s := same_new (o := .lst (xs ++ ys)) hr
  exact qq _ r s (n.tape.ne_new hr) ns (n.free hr) upd_same (all_stay (same_but7 s) (all_app a1 a2)) (lok_app h1 h2)
theorem mkl_cat (h : MkL N tp σ H0 t (LOk B)) (g : MkL N tp σ H0 t2 (LOk B2)) (hb : B + B2 ≤ 100000) : MkL N tp σ H0 (tOp rCatN t t2) (LOk (B + B2)) := fun H Q b n q => h H _ b n fun H1 p ys es b1 n1 np e1 a1 p1 => g H1 _ (b.trans b1) n1 fun H2 p2 ys2 es2 b2 n2 np2 e2 a2 p2' =>
  cat_goes n2 (b2 _ _ np e1) e2 (all_stay (n1.st b2) a1) a2 p1 p2' hb fun H3 r s nr ns nn er ar lr => q H3 r _ _ ((b1.trans b2).trans (But.same s)) (n2.same s) nr er ar lr
theorem mk_catL (h : MkL N tp σ H0 t (LOk B)) (g : MkL N tp σ H0 t2 (LOk B2)) (hb : B + B2 ≤ 100000) : MkE N tp σ H0 (tOp rCatN t t2) (fun d => ∃ es, d = .list es ∧ LOk (B + B2) es) := fun H Q b n q => h H _ b n fun H1 p ys es b1 n1 np e1 a1 p1 => g H1 _ (b.trans b1) n1 fun H2 p2 ys2 es2 b2 n2 np2 e2 a2 p2' =>
  cat_goes n2 (b2 _ _ np e1) e2 (all_stay (n1.st b2) a1) a2 p1 p2' hb fun H3 r s nr ns nn er ar lr => q H3 _ _ ((b1.trans b2).trans (But.same s)) (n2.same s) (.lst nn ns er ar) ⟨_, rfl, lr⟩
/-- tuple(xs), of a list -/
theorem mk_tupOf {K : PySem.W.Frag} {R : List PyData → Prop} (h : MkL N tp σ H0 t R) : MkE N tp σ H0 (tCB (fun xs H Q => ∃ p ys, xs = [.ref p] ∧ ((SqL K H p ys ∧ ∀ l, H l = none → Q (.ref l) (upd H l (.tup ys))) ∨ (SqT K H p ys ∧ Q (.ref p) H))) (tCons t tNil)) (fun d => ∃ es, d = .tuple es ∧ R es) := fun H Q b n q => h H _ b n fun H1 p ys es b1 n1 np e1 a1 p1 => by
  refine ⟨p, ys, rfl, .inl ⟨.inl (.inl e1), fun r hr => ?_⟩⟩
  have s := same_new (o := .tup ys) hr
  exact q _ _ _ (b1.trans (But.same s)) (n1.same s) (.tup (n1.free hr) upd_same (all_stay (same_but7 s) a1)) ⟨es, rfl, p1⟩
end mkl3
theorem gstep_nc {m : Nat} {d : PyData} (h : GStep m d) : NcB 84 8 d ∧ StepLk d := by
  obtain ⟨e, ds, o, fe, v0, v1, ok, rfl⟩ := h
  obtain ⟨lkR, ncR⟩ := rowlk_row ok
  refine ⟨(ncl_tup (ncl_cons ((fw_nc fe).mono (Nat.le_refl _) (show 0 ≤ 6 by decide)) (ncl_cons ((ncb_int (i := e.2) (by omega)).mono (Nat.le_refl _) (show 0 ≤ 6 by decide)) (ncl_cons (ncR.mono (Nat.le_refl _) (show 3 ≤ 6 by decide)) (ncl_nil (b := 0)))))).mono (by decide) (by decide), fun a b c z => ?_⟩
  simp only [PyData.tuple.injEq, List.cons.injEq, and_true] at z
  obtain ⟨rfl, rfl, rfl⟩ := z
  exact ⟨fw_odd fe, lkR⟩
theorem lok_chain {m : Nat} : ∀ {l : List PyData}, (∀ d ∈ l, GStep m d) → LOk (l.length * 85) l
  | [], _ => ⟨ncl_nil, fun _ z => nomatch z⟩
  | d :: l, h => by
    obtain ⟨a, b⟩ := gstep_nc (h d List.mem_cons_self)
    have ih := lok_chain fun x hx => h x (List.mem_cons_of_mem _ hx)
    refine ⟨(ncl_cons a ih.nc).mono (by rw [List.length_cons, Nat.add_mul]; omega) (Nat.le_refl _), fun s hs => ?_⟩
    rcases List.mem_cons.mp hs with rfl | hs
    · exact b
    · exact ih.lk s hs
/-- a thing that may be asked as a chain -/
structure ThOk (d : PyData) : Prop where
  nice : NcB 29000 9 d
  lk : ChLk d
theorem thok_list {B : Nat} {es : List PyData} (h : LOk B es) (hb : B ≤ 29000) : ThOk (.list es) := ⟨(ncl_lst h.nc).mono hb (Nat.le_refl _), fun l e => by
  simp only [PyData.list.injEq] at e
  exact e ▸ h.lk⟩
theorem thok_no {d : PyData} (h : NcB 29000 9 d) (n : ∀ l, d ≠ .list l) : ThOk d := ⟨h, fun l e => absurd e (n l)⟩
theorem ti_addk {σ : L2.St} {i : Nat} {k j : Int} (e : σ[i]? = some (some (.int k))) : TInt σ (tOp (rI0 fun i j => .int (i + j)) (tVar i) (tC (.int j))) (k + j) := fun H Q q => ⟨_, e, k, j, rfl, rfl, q⟩
def spBe : Sp := fun vs H Q _ => ∃ (tp C : Addr) (m : Nat) (l : List PyData), vs = [.ref tp, .ref C] ∧ AnyAt (NT tp) H (.ref C) (.list l) ∧ l.length ≤ 106 ∧ (∀ d ∈ l, GStep m d) ∧ TP H tp ∧
  ∀ H' v d, AnyAt (NT tp) H' v d → ThOk d → TP H' tp → But tp H H' → Q v H'
set_option maxHeartbeats 8000000 in
theorem ok_be {f fG fS : Addr} {fd fdG fdS : FuncData} {k : Nat} (F : Fun K "_law_bent" "_law_bent" s_law_bent f fd)
    (GG : FnOk P w K mg base CX0 (k + 1) fG fdG ["tape", "many"] spDigit) (kG : PySem.W.keepIn K (.ref fG) = true) (bG : Binds K fdG ["tape", "many"] []) (gG : mg "_law_digit" = some (.ref fG))
    (GS : FnOk P w K mg base CX0 (k + 3) fS fdS ["tape", "step"] spBs) (kS : PySem.W.keepIn K (.ref fS) = true) (bS : Binds K fdS ["tape", "step"] []) (gS : mg "_law_bent_step" = some (.ref fS))
    (mn : mg "len" = none) (mt : mg "tuple" = none) : FnOk P w K mg base CX0 (k + 4) f fd ["tape", "chain"] spBe := by
  refine F.ok sc_law_bent (fun vs H Q E h => ?_) (fun cdv A outer s H vs Q E hr h => ?_)
  · obtain ⟨tp, C, m, l, rfl, _⟩ := h
    rfl
  · obtain ⟨tp, C, m, l, rfl, hC, ll, hl, tt, q⟩ := h
    have R1 := hr.mono (show k + 1 ≤ k + 3 by omega)
    have hu65 := hu65_of hr
    refine ⟨_, pss_cons (ps_set (i := 2) sc_law_bent.nd rfl (.inl rfl) (pe_call GG R1 (by rfl) gG kG bG .nil pass0 (pa_cons (pv 0) (pa_cons pe_int pa_nil))))
    (pss_cons (ps_if (PW.pt (pw_or (pt_cmpR (op_eqL0 (Nat.lt_of_succ_lt hu65)) (pv 1) (pe_lst pa_nil) (nomark _)) (pw_or1 (pt_cmpR op_eq (pv 2) pe_int (nomark _)))))
    (pss_one (ps_ret (pe_ix ix_list (pe_K <| pe_lst (pa_cons pe_non (pa_cons (pe_tup pa_nil) (pa_cons (pe_lstN (pa_cons (pe_tup pa_nil) pa_nil)) (pa_cons pe_int (pa_cons pe_str (pa_cons (pe_lstN (pa_cons pe_non pa_nil)) (pa_cons (pe_callTy call_tuple_of (by rfl) mt (by decide +kernel) (pa_cons (pv 1) pa_nil)) (pa_cons pe_dnewK pa_nil))))))))) (pe_call GG R1 (by rfl) gG kG bG .nil pass0 (pa_cons (pv 0) (pa_cons pe_int pa_nil))) (fun _ _ => rfl))))
    pss_nil)
    (pss_cons (ps_set (i := 3) sc_law_bent.nd rfl (.inl rfl) (pe_call GG R1 (by rfl) gG kG bG .nil pass0 (pa_cons (pv 0) (pa_cons (pe_callB call_len_seq (by rfl) mn PySem.boot_len (pa_cons (pv 1) pa_nil)) pa_nil))))
    (pss_cons (ps_if (pt_cmpR op_lt (pv 2) pe_int (nomark _))
    (pss_one (ps_ret (pe_K <| pe_op op_catN (pe_op op_catN (pe_slice sl_list (pv 1) po_none (po_some (pv 3))) (pe_lst (pa_cons (pe_call GS hr (by rfl) gS kS bS .nil pass0 (pa_cons (pv 0) (pa_cons (pe_ix ix_list (pv 1) (pv 3) (fun _ _ => rfl)) pa_nil))) pa_nil))) (pe_slice sl_list (pv 1) (po_some (pe_op op_add (pv 3) pe_int)) po_none))))
    pss_nil)
    (pss_one (ps_ret (pe_ix ix_list (pe_K <| pe_lst (pa_cons (pe_op op_catN (pe_slice sl_list (pv 1) po_none (po_some (pv 3))) (pe_slice sl_list (pv 1) (po_some (pe_op op_add (pv 3) pe_int)) po_none)) (pa_cons (pe_op op_catN (pe_slice sl_list (pv 1) po_none (po_some (pe_op op_add (pv 3) pe_int))) (pe_slice sl_list (pv 1) (po_some (pv 3)) po_none)) (pa_cons (pe_op op_catN (pe_op op_catN (pe_slice sl_list (pv 1) po_none (po_some (pv 3))) (pe_rev (pe_slice sl_list (pv 1) (po_some (pv 3)) (po_some (pe_op op_add (pv 3) pe_int))) (pe_un un_neg pe_int))) (pe_slice sl_list (pv 1) (po_some (pe_op op_add (pv 3) pe_int)) po_none)) pa_nil)))) (pe_op op_sub (pv 2) pe_int) (fun _ _ => rfl))))))), ?_⟩
    have lc := (lok_chain hl).mono (show l.length * 85 ≤ 9010 by omega)
    have nC : C ≠ tp := by cases hC with | lst n _ _ _ => exact n
    refine ⟨.ref tp, rfl, tp, 7, rfl, by decide, by decide, tt, fun H1 z z0 z1 t1 b1 => ?_⟩
    have hC1 : AnyAt (NT tp) H1 (.ref C) (.list l) := any_stay (fun c u nc e => b1 c u nc e) hC
    obtain ⟨xs, eC, hxs⟩ : ∃ xs, H1 C = some (.lst xs) ∧ AnyAll (NT tp) H1 xs l := by cases hC1 with | lst _ _ e h => exact ⟨_, e, h⟩
    refine ⟨.ref C, rfl, (by show 0 ≤ sizeLine; decide), fun Z hZ => ?_⟩
    have sZ := same_new (o := .lst []) hZ
    have eZ : upd H1 Z (.lst []) Z = some (.lst []) := upd_same
    generalize upd H1 Z (.lst []) = H2 at sZ eZ
    have t2 := t1.same sZ
    have b2 := b1.trans (But.same sZ)
    have hC2 := any_same sZ hC1
    refine ⟨C, Z, xs, rfl, rfl, sZ _ _ eC, eZ, _, rfl, ?_⟩
    refine (fun thn => ite2 (fun _ => thn) (fun e => ⟨.int z, rfl, rfl, _, rfl, ite2 (fun _ => thn) (fun e2 => ?rest)⟩)) ?thn
    case thn =>
      refine mkl_run (N := NT tp) (tp := tp) (H0 := H2) (R := fun ds => ds.length = 8 ∧ ∀ d ∈ ds, ThOk d) ?_ (But.refl tp H2) (ngd_t t2) (fun H3 qa ya ea b3 n3 nqa eqa aa ra => ?_)
      · refine mkl_lstR ?_ (fun ds h => by rw [h.1]; decide)
        refine mk_consP (mk_non.mono fun d e => e ▸ thok_no (ncb_non.mono (by decide) (by decide)) (fun _ z => by cases z)) ?_
        refine mk_consP ((mk_tup mk_nil (by decide)).mono fun d e => e ▸ thok_no ((ncl_tup (ncl_nil (b := 0) (k := 0))).mono (by decide) (by decide)) (fun _ z => by cases z)) ?_
        refine mk_consP ((mk_lst (mk_cons (mk_tup mk_nil (by decide)) mk_nil) (by decide)).mono fun d e => e ▸ thok_list (B := 10) ⟨(ncl_cons (ncl_tup (ncl_nil (b := 0) (k := 0))) (ncl_nil (b := 0))).mono (by decide) (by decide), fun s hs => by
          rw [List.mem_singleton.mp hs]
          exact fun a b c z => by simp at z⟩ (by decide)) ?_
        refine mk_consP ((mk_int 0).mono fun d e => e ▸ thok_no ((ncb_int (i := 0) (by decide)).mono (by decide) (by decide)) (fun _ z => by cases z)) ?_
        refine mk_consP ((mk_str "drop").mono fun d e => e ▸ thok_no ((ncb_str (n := 4) (by decide +kernel) (by decide +kernel)).mono (by decide) (by decide)) (fun _ z => by cases z)) ?_
        refine mk_consP ((mk_lst (mk_cons mk_non mk_nil) (by decide)).mono fun d e => e ▸ thok_list (B := 10) ⟨(ncl_cons ncb_non (ncl_nil (b := 0))).mono (by decide) (by decide), fun s hs => by
          rw [List.mem_singleton.mp hs]
          exact fun a b c z => by cases z⟩ (by decide)) ?_
        refine mk_consP ((mk_tupOf (mkl_var (N := NT tp) (R := LOk 9010) rfl rfl hC2 lc)).mono fun d ⟨es, e, h⟩ => e ▸ thok_no ((ncl_tup h.nc).mono (by decide) (by decide)) (fun _ z => by cases z)) ?_
        refine mk_consP (mk_dict.mono fun d e => e ▸ thok_no (ncb_dict.mono (by decide) (by decide)) (fun _ z => by cases z)) ?_
        exact mk_nilP
      · have t3 := n3.tape
        refine ⟨.ref tp, rfl, tp, 8, rfl, by decide, by decide, t3, fun H4 i i0 i1 t4 b4 => ?_⟩
        obtain ⟨j, rfl⟩ := Int.eq_ofNat_of_zero_le i0
        have jl : j < ya.length := by
          rw [all_len aa, ra.1]
          omega
        obtain ⟨d, hd, ha⟩ := all_get aa (List.getElem?_eq_getElem jl)
        refine ⟨qa, ya, ((j : Nat) : Int), ya[j], rfl, rfl, .inl (.inl (b4 _ _ nqa eqa)), atI_nat (List.getElem?_eq_getElem jl), ?_⟩
        exact q H4 _ d (any_stay (fun c u nc e => b4 c u nc e) ha) (ra.2 d (List.mem_of_getElem? hd)) t4 (b2.trans (b3.trans b4))
    case rest =>
      have lx := all_len hxs
      have l0 : 0 < l.length := by
        rcases l with _ | ⟨d, l⟩
        · cases hxs
          exact absurd rfl e
        · exact Nat.succ_pos _
      have z6 : z ≠ 6 := fun c => by
        rw [c] at e2
        simp at e2
      refine ⟨.ref tp, rfl, .ref C, rfl, C, _, rfl, .inl (.inl (.inl (sZ _ _ eC))), tp, _, rfl, by omega, by omega, t2, fun H3 y y0 y1 t3 b3 => ?_⟩
      obtain ⟨j, rfl⟩ := Int.eq_ofNat_of_zero_le y0
      have jl : j < l.length := by omega
      have hC3 : AnyAt (NT tp) H3 (.ref C) (.list l) := any_stay (fun c u nc e => b3 c u nc e) hC2
      have b03 := b2.trans b3
      have vC := fun (σ : L2.St) (e : σ[1]? = some (some (.ref C))) => mkl_var (N := NT tp) (tp := tp) (H0 := H3) (R := LOk 9010) rfl e hC3 lc
      refine ⟨.int z, rfl, z, 3, rfl, rfl, _, rfl, ite2 (fun e3 => ?_) (fun e3 => ?_)⟩
      · -- one step otherwise
        have vS : ∀ (σ : L2.St), σ[0]? = some (some (.ref tp)) → σ[1]? = some (some (.ref C)) → σ[3]? = some (some (.int ((j : Nat) : Int))) → MkL (NT tp) tp σ H3 (tLst (tCons (tCall spBs [] E0 (tCons (tVar 0) (tCons (tOp (rIxL K) (tVar 1) (tVar 3)) tNil))) tNil)) (LOk 401) := fun σ a0 a1 a3 => by
          refine mkl_lstR (R := LOk 401) (fun H Q b n q => ?_) (fun ds h => Nat.le_trans (ncl_len h.nc) (by decide))
          have hCx : AnyAt (NT tp) H (.ref C) (.list l) := any_stay (fun c u nc e => b c u nc e) hC3
          obtain ⟨xs', eC', hxs'⟩ : ∃ xs, H C = some (.lst xs) ∧ AnyAll (NT tp) H xs l := by cases hCx with | lst _ _ e h => exact ⟨_, e, h⟩
          have jx : j < xs'.length := by rw [all_len hxs']; exact jl
          obtain ⟨d, hd, ha⟩ := all_get hxs' (List.getElem?_eq_getElem jx)
          refine ⟨_, a0, _, a1, _, a3, C, xs', ((j : Nat) : Int), xs'[j], rfl, rfl, .inl (.inl eC'), atI_nat (List.getElem?_eq_getElem jx), ?_⟩
          refine ⟨tp, m, _, d, rfl, ha, hl d (List.mem_of_getElem? hd), n.tape, fun H' v d' ha' sk t' b' => ?_⟩
          refine q H' [v] [d'] b' (n.but b' t') (.cons ha' .nil) ⟨(ncl_cons sk.nice (ncl_nil (b := 0))).mono (by decide) (Nat.le_refl _), fun s hs => ?_⟩
          rw [List.mem_singleton.mp hs]
          exact sk.lk
        refine mk_run (N := NT tp) (tp := tp) (H0 := H3) (P := fun d => ∃ es, d = .list es ∧ LOk (9010 + 401 + 9010) es) ?_ (But.refl tp H3) (ngd_t t3) (fun H4 v d b4 n4 a4 pd => ?_)
        · exact mk_catL (mkl_cat (mkl_sl (vC _ rfl) po_no (po_ti (ti_var rfl))) (vS _ rfl rfl rfl) (by decide)) (mkl_sl (vC _ rfl) (po_ti (ti_add1 rfl)) po_no) (by decide)
        · obtain ⟨es, rfl, lk⟩ := pd
          exact q H4 v _ a4 (thok_list lk (by decide)) n4.tape (b03.trans b4)
      · have z3 : 3 ≤ z := by
          have := of_decide_eq_false (Bool.eq_false_iff.mpr e3)
          omega
        have ok1 : ∀ {B : Nat}, B ≤ 29000 → ∀ d : PyData, (∃ es, d = .list es ∧ LOk B es) → ThOk d := fun hb d ⟨es, e, h⟩ => e ▸ thok_list h hb
        refine mkl_run (N := NT tp) (tp := tp) (H0 := H3) (R := fun ds => ds.length = 3 ∧ ∀ d ∈ ds, ThOk d) ?_ (But.refl tp H3) (ngd_t t3) (fun H4 qa ya ea b4 n4 nqa eqa aa ra => ?_)
        · refine mkl_lstR ?_ (fun ds h => by rw [h.1]; decide)
          refine mk_consP ((mk_catL (mkl_sl (vC _ rfl) po_no (po_ti (ti_var rfl))) (mkl_sl (vC _ rfl) (po_ti (ti_add1 rfl)) po_no) (by decide)).mono (ok1 (by decide))) ?_
          refine mk_consP ((mk_catL (mkl_sl (vC _ rfl) po_no (po_ti (ti_add1 rfl))) (mkl_sl (vC _ rfl) (po_ti (ti_var rfl)) po_no) (by decide)).mono (ok1 (by decide))) ?_
          refine mk_consP ((mk_catL (mkl_cat (mkl_sl (vC _ rfl) po_no (po_ti (ti_var rfl))) (mkl_rev (mkl_sl (vC _ rfl) (po_ti (ti_var rfl)) (po_ti (ti_addk rfl))) (fun H Q q => ⟨1, rfl, q⟩)) (by decide)) (mkl_sl (vC _ rfl) (po_ti (ti_addk rfl)) po_no) (by decide)).mono (ok1 (by decide))) ?_
          exact mk_nilP
        · obtain ⟨j3, hj3, hz⟩ : ∃ j3 : Nat, j3 < 3 ∧ z - 3 = (j3 : Int) := ⟨(z - 3).toNat, by omega, by omega⟩
          have jl3 : j3 < ya.length := by
            rw [all_len aa, ra.1]
            exact hj3
          obtain ⟨d, hd, ha⟩ := all_get aa (List.getElem?_eq_getElem jl3)
          refine ⟨.int z, rfl, z, 3, rfl, rfl, qa, ya, z - 3, ya[j3], rfl, rfl, .inl (.inl eqa), by rw [hz]; exact atI_nat (List.getElem?_eq_getElem jl3), ?_⟩
          exact q H4 _ d ha (ra.2 d (List.mem_of_getElem? hd)) n4.tape (b03.trans b4)
/-! ### k56: law -/
set_option maxHeartbeats 4000000 in
theorem law_run {fa fT fR fM fB fC fL : Addr} {fd fdT fdR fdM fdB fdC fdL : FuncData} {s : Shared} {a : Addr} {ns : List Int} {H : Hp} (F : Fun K "law" "law" s_law fa fd) (bL : Binds K fd ["script"] [])
    (GT : FnOk P w K mg base CX0 1 fT fdT ["script", "start"] (spTape K)) (kT : PySem.W.keepIn K (.ref fT) = true) (bT : Binds K fdT ["script", "start"] []) (gT : mg "_law_tape" = some (.ref fT))
    (GR : FnOk P w K mg base CX0 4 fR fdR ["tape"] spLg) (kR : PySem.W.keepIn K (.ref fR) = true) (bR : Binds K fdR ["tape"] []) (gR : mg "_law_long_row" = some (.ref fR))
    (GM : FnOk P w K mg base CX0 6 fM fdM ["tape", "row"] spMa) (kM : PySem.W.keepIn K (.ref fM) = true) (bM : Binds K fdM ["tape", "row"] []) (gM : mg "_law_made" = some (.ref fM))
    (GB : FnOk P w K mg base CX0 4 fB fdB ["tape", "chain"] spBe) (kB : PySem.W.keepIn K (.ref fB) = true) (bB : Binds K fdB ["tape", "chain"] []) (gB : mg "_law_bent" = some (.ref fB))
    (GC : FnOk P w K mg base CX0 10 fC fdC ["row", "thing"] spIcA) (kC : PySem.W.keepIn K (.ref fC) = true) (bC : Binds K fdC ["row", "thing"] []) (gC : mg "is_chain" = some (.ref fC))
    (GL : FnG P w K mg base 6 fL fdL ["row", "thing"] spLr) (kL : PySem.W.keepIn K (.ref fL) = true) (bLr : Binds K fdL ["row", "thing"] []) (gL : mg "_law_right" = some (.ref fL)) (mB : mg "bool" = none)
    (mr : mg "range" = none) (mn : mg "len" = none) (mx : mg "max" = none) (mi : mg "min" = none) (mp : mg "repr" = none) (mIs : mg "isinstance" = none)
    (hlen : ns.length ≤ 63) (hbits : ∀ z ∈ ns, Builtin.Int.intBits z ≤ 1048576) (e0 : Env0 P w K mg base callerA [] s H) (hS : SqL K H a (ns.map V.int)) :
    codeAny (model P w) callerA (.call (.ref fa) ⟨[.ref a], []⟩) (CR CX0 [] P w H s (fun v _ => v = .bl true) E0) s := by
  refine fn_at (k := 11) (us := [.ref a]) (vs := [.ref a]) F sc_law ⟨rfl, by decide, by decide⟩ e0 ?_ (.cons rfl .nil) rfl (fun cdv => ?_)
  · have := bL s [.ref a] (e0.mod.kin.keeps fun b o e => (e0.bs b o e).1) rfl
    simpa using this
  have hr : Room 11 (callerA.deeper (envOfC "law" (defScope s_law) s.heap.objs.size fa cdv)) := Room.deeper (k := 11) ⟨rfl, by decide, by decide⟩ _
  have hg : (callerA.deeper (envOfC "law" (defScope s_law) s.heap.objs.size fa cdv)).guards = some [] := rfl
  have R1 := hr.mono (show 1 ≤ 11 by decide)
  have R4 := hr.mono (show 4 ≤ 11 by decide)
  have R6 := hr.mono (show 6 ≤ 11 by decide)
  have R10 := hr.mono (show 10 ≤ 11 by decide)
  have hu65 := hu65_of hr
  refine ⟨_, pss_cons (ps_for PassesOwn.never rfl (pi_range1 (by rfl) mr (pa_cons (pe_callB (call_max2 rfl) (by rfl) mx (by decide +kernel) (pa_cons pe_int (pa_cons (pe_callB (call_min2 rfl) (by rfl) mi (by decide +kernel) (pa_cons pe_int (pa_cons (pe_callB call_len_seq (by rfl) mn PySem.boot_len (pa_cons (pv 0) pa_nil)) pa_nil))) pa_nil))) pa_nil)) (pg_name (i := 1) sc_law.nd rfl (.inl rfl))
    (pss_cons (ps_set (i := 2) sc_law.nd rfl (.inl rfl) (pe_call GT R1 (by rfl) gT kT bT .nil pass0 (pa_cons (pv 0) (pa_cons (pv 1) pa_nil))))
    (pss_cons (ps_set (i := 3) sc_law.nd rfl (.inl rfl) (pe_call GR R4 (by rfl) gR kR bR .nil pass0 (pa_cons (pv 2) pa_nil)))
    (pss_cons (ps_set (i := 4) sc_law.nd rfl (.inl rfl) (pe_call GM R6 (by rfl) gM kM bM .nil pass0 (pa_cons (pv 2) (pa_cons (pv 3) pa_nil))))
    (pss_one (ps_for PassesOwn.never rfl (pi_range1 (by rfl) mr (pa_cons pe_int pa_nil)) (pg_name (i := 5) sc_law.nd rfl (.inl rfl))
    (pss_cons (ps_set (i := 6) sc_law.nd rfl (.inl rfl) (pv 4))
    (pss_mid (ps_if (pt_cmpR op_gt (pv 5) pe_int (nomark _))
    (pss_one (ps_set (i := 6) sc_law.nd rfl (.inl rfl) (pe_call GB R4 (by rfl) gB kB bB .nil pass0 (pa_cons (pv 2) (pa_cons (pv 4) pa_nil)))))
    pss_nil)
    (pss_cons (ps_set (i := 7) sc_law.nd rfl (.inl rfl) (pe_callB (call_repr hg hr.units) (by rfl) mp (by decide +kernel) (pa_cons (pv 6) pa_nil)))
    (pss_cons (ps_set (i := 8) sc_law.nd rfl (.inl rfl) (pe_call GC R10 (by rfl) gC kC bC .nil pass0 (pa_cons (pv 3) (pa_cons (pv 6) pa_nil))))
    (pss_one (ps_if (PW.pt (pw_or (pt_not (pt_val (pe_callB call_isi (by rfl) mIs (by decide +kernel) (pa_cons (pv 8) (pa_cons (pe_bltn (v := .ty "bool") (by rfl) mB (by decide +kernel) rfl) pa_nil))))) (pw_or (pt_cmpR op_ne (pv 8) (pe_callG GL R6 hg (by rfl) gL kL bLr (pa_cons (pv 3) (pa_cons (pv 6) pa_nil))) (nomark _)) (pw_or1 (pt_cmpR op_ne (pe_callB (call_repr hg hr.units) (by rfl) mp (by decide +kernel) (pa_cons (pv 6) pa_nil)) (pv 7) (nomark _))))))
    (pss_one (ps_ret pe_bl))
    pss_nil))))))))))))
    (pss_one (ps_ret pe_bl)), ?_⟩
  refine ⟨.ref a, rfl, a, _, rfl, .inl hS, 2, _, rfl, 1, _, rfl, ?_⟩
  obtain ⟨N, hN⟩ : ∃ N : Int, N = if (if ((ns.map V.int).length : Int) < 2 then ((ns.map V.int).length : Int) else 2) > 1 then (if ((ns.map V.int).length : Int) < 2 then ((ns.map V.int).length : Int) else 2) else 1 := ⟨_, rfl⟩
  have hN1 : 0 ≤ N ∧ N ≤ 2 := by
    rw [hN]
    split <;> split <;> omega
  rw [← hN]
  refine ⟨N, rfl, by omega, by omega, for_range (lo := 0) (n := N.toNat) (fun i σ H3 => (∃ y1 y2 y3 y4 y5 y6 y7 y8, σ = [some (.ref a), y1, y2, y3, y4, y5, y6, y7, y8]) ∧ Same H H3) ⟨⟨none, none, none, none, none, none, none, none, rfl⟩, Same.refl H⟩ (fun i σ H3 hi hp => ?_) (fun σ H3 hp => rfl)⟩
  obtain ⟨⟨y1, y2, y3, y4, y5, y6, y7, y8, rfl⟩, s3⟩ := hp
  refine ⟨.ref a, rfl, .int (0 + i), rfl, a, ns, 0 + i, rfl, s3.seq hS, by omega, by omega, fun H4 tp s4 htp t4 => ?_⟩
  have nold : ∀ b o, H b = some o → b ≠ tp := fun b o e => ne_of_none (s3 _ _ e) htp
  refine ⟨.ref tp, rfl, tp, rfl, t4, fun H5 R m ds o hrow ok t5 b5 => ?_⟩
  have s05 : Same H H5 := fun b v e => b5 b v (nold b v e) (s4 _ _ (s3 _ _ e))
  refine ⟨.ref tp, rfl, .ref R, rfl, tp, R, m, o, ds, rfl, hrow, ok, t5, fun H6 C l hC ll hl t6 b6 => ?_⟩
  have lc := lok_chain hl
  have thC : ThOk (.list l) := thok_list lc (by omega)
  refine ⟨4, rfl, by decide, by decide, for_range (lo := 0) (n := (4 : Int).toNat) (fun k σ H7 => (∃ y5 y6 y7 y8, σ = [some (.ref a), some (.int (0 + i)), some (.ref tp), some (.ref R), some (.ref C), y5, y6, y7, y8]) ∧ TP H7 tp ∧ But tp H6 H7) ⟨⟨_, _, _, _, rfl⟩, t6, But.refl tp H6⟩ (fun k σ H7 hk hp => ?_) (fun σ H7 hp => ?_)⟩
  · obtain ⟨⟨z5, z6, z7, z8, rfl⟩, t7, b7⟩ := hp
    have hC7 : AnyAt (NT tp) H7 (.ref C) (.list l) := any_stay (fun c u nc e => b7 c u nc e) hC
    have hrow7 := ((b6.trans b7).tape t5).row hrow
    refine ⟨.ref C, rfl, ?_⟩
    refine ⟨fun σ2 H8 => ∃ (v : V) (d : PyData), σ2 = [some (.ref a), some (.int (0 + i)), some (.ref tp), some (.ref R), some (.ref C), some (.int (0 + (k : Int))), some v, z7, z8] ∧ AnyAt (NT tp) H8 v d ∧ ThOk d ∧ TP H8 tp ∧ But tp H6 H8, ?_, ?_⟩
    · refine ⟨.int (0 + (k : Int)), rfl, 0 + (k : Int), 0, rfl, rfl, _, rfl, ite2 (fun e => ?_) (fun e => ?_)⟩
      · refine ⟨.ref tp, rfl, .ref C, rfl, tp, C, m, l, rfl, hC7, ll, hl, t7, fun H8 v d ha th t8 b8 => ?_⟩
        exact ⟨v, d, rfl, ha, th, t8, b7.trans b8⟩
      · exact ⟨.ref C, .list l, rfl, hC7, thC, t7, b7⟩
    · rintro σ2 H8 ⟨v, d, rfl, ha, th, t8, b8⟩
      have hrow8 := ((b6.trans b8).tape t5).row hrow
      refine ⟨v, rfl, v, d, rfl, .inl (rz_any ha), th.nice.sh, Nat.le_trans th.nice.dp (by decide), th.nice.fits (by decide), ?_⟩
      refine ⟨.ref R, rfl, v, rfl, R, m, o, ds, NT tp, v, d, rfl, hrow8, ok, ha, th.lk, fun H9 b hb s9 => ?_⟩
      have ha9 := any_same s9 ha
      refine ⟨.bl b, rfl, .bl b, .ty "bool", .type "bool", .type "bool", true, rfl, .ty "bool", .base (.bl b), kit_ty (by decide +kernel), true, rfl, iteF ?_⟩
      refine ⟨.bl b, rfl, .ref R, rfl, v, rfl, R, m, o, ds, NT tp, v, d, rfl, (Same.tups s9).row hrow8, ok, ha9, th.lk, fun Ha b2 hb2 sa => ?_⟩
      have hbb : b = b2 := by
        cases b <;> cases b2 <;> simp_all
      subst hbb
      refine ⟨rfl, _, rfl, ite2 (fun e => absurd e (by simp)) (fun _ => ?_)⟩
      have haa := any_same sa ha9
      refine ⟨v, rfl, v, d, rfl, .inl (rz_any haa), th.nice.sh, Nat.le_trans th.nice.dp (by decide), th.nice.fits (by decide), .str d.shown, rfl, rfl, _, rfl, ite2 (fun e => absurd e (by simp)) (fun _ => ?_)⟩
      exact ⟨⟨_, _, _, _, rfl⟩, (t8.same s9).same sa, b8.trans (But.same (s9.trans sa))⟩
  · obtain ⟨⟨z5, z6, z7, z8, rfl⟩, t7, b7⟩ := hp
    exact ⟨⟨_, _, _, _, _, _, _, _, rfl⟩, fun b u e => b7 b u (nold b u e) (b6 b u (nold b u e) (s05 _ _ e))⟩
theorem awL1 {α : Type} : ∀ {l : List α}, l.length = 1 → ∃ a0, l = [a0]
  | [a0], _ => ⟨a0, rfl⟩
theorem awL2 {α : Type} : ∀ {l : List α}, l.length = 2 → ∃ a0 a1, l = [a0, a1]
  | [a0, a1], _ => ⟨a0, a1, rfl⟩
theorem awL3 {α : Type} : ∀ {l : List α}, l.length = 3 → ∃ a0 a1 a2, l = [a0, a1, a2]
  | [a0, a1, a2], _ => ⟨a0, a1, a2, rfl⟩
theorem awL4 {α : Type} : ∀ {l : List α}, l.length = 4 → ∃ a0 a1 a2 a3, l = [a0, a1, a2, a3]
  | [a0, a1, a2, a3], _ => ⟨a0, a1, a2, a3, rfl⟩
theorem awL5 {α : Type} : ∀ {l : List α}, l.length = 5 → ∃ a0 a1 a2 a3 a4, l = [a0, a1, a2, a3, a4]
  | [a0, a1, a2, a3, a4], _ => ⟨a0, a1, a2, a3, a4, rfl⟩
theorem awL6 {α : Type} : ∀ {l : List α}, l.length = 6 → ∃ a0 a1 a2 a3 a4 a5, l = [a0, a1, a2, a3, a4, a5]
  | [a0, a1, a2, a3, a4, a5], _ => ⟨a0, a1, a2, a3, a4, a5, rfl⟩
theorem awL7 {α : Type} : ∀ {l : List α}, l.length = 7 → ∃ a0 a1 a2 a3 a4 a5 a6, l = [a0, a1, a2, a3, a4, a5, a6]
  | [a0, a1, a2, a3, a4, a5, a6], _ => ⟨a0, a1, a2, a3, a4, a5, a6, rfl⟩
/-! ### what the top has written -/
set_option maxHeartbeats 4000000 in
theorem all_mk {l : PySem.W.OpenLaw} {w : World} {K : PySem.W.Frag} {h : Heap} {mg : Str → Option Value} {fa : Addr} (X : K.In h) (G : h.Ns mainGlobals mg) (hfa : mg "law" = some (.ref fa))
    {f0 : Addr} {od0 an0 : Option Addr} {sl0 : Array (Option Value)} {oc0 kV0 dc0 pm0 cd0 ct0 : Value}
    {f1 : Addr} {od1 an1 : Option Addr} {sl1 : Array (Option Value)} {oc1 kV1 dc1 pm1 cd1 ct1 : Value}
    {f2 : Addr} {od2 an2 : Option Addr} {sl2 : Array (Option Value)} {oc2 kV2 dc2 pm2 cd2 ct2 : Value}
    {f3 : Addr} {od3 an3 : Option Addr} {sl3 : Array (Option Value)} {oc3 kV3 dc3 pm3 cd3 ct3 : Value}
    {f4 : Addr} {od4 an4 : Option Addr} {sl4 : Array (Option Value)} {oc4 kV4 dc4 pm4 cd4 ct4 : Value}
    {f5 : Addr} {od5 an5 : Option Addr} {sl5 : Array (Option Value)} {oc5 kV5 dc5 pm5 cd5 ct5 : Value}
    {f6 : Addr} {od6 an6 : Option Addr} {sl6 : Array (Option Value)} {oc6 kV6 dc6 pm6 cd6 ct6 : Value}
    {f7 : Addr} {od7 an7 : Option Addr} {sl7 : Array (Option Value)} {oc7 kV7 dc7 pm7 cd7 ct7 : Value}
    {f8 : Addr} {od8 an8 : Option Addr} {sl8 : Array (Option Value)} {oc8 kV8 dc8 pm8 cd8 ct8 : Value}
    {f9 : Addr} {od9 an9 : Option Addr} {sl9 : Array (Option Value)} {oc9 kV9 dc9 pm9 cd9 ct9 : Value}
    {f10 : Addr} {od10 an10 : Option Addr} {sl10 : Array (Option Value)} {oc10 kV10 dc10 pm10 cd10 ct10 : Value}
    {f11 : Addr} {od11 an11 : Option Addr} {sl11 : Array (Option Value)} {oc11 kV11 dc11 pm11 cd11 ct11 : Value}
    {f12 : Addr} {od12 an12 : Option Addr} {sl12 : Array (Option Value)} {oc12 kV12 dc12 pm12 cd12 ct12 : Value}
    {f13 : Addr} {od13 an13 : Option Addr} {sl13 : Array (Option Value)} {oc13 kV13 dc13 pm13 cd13 ct13 : Value}
    {f14 : Addr} {od14 an14 : Option Addr} {sl14 : Array (Option Value)} {oc14 kV14 dc14 pm14 cd14 ct14 : Value}
    {f15 : Addr} {od15 an15 : Option Addr} {sl15 : Array (Option Value)} {oc15 kV15 dc15 pm15 cd15 ct15 : Value}
    {f16 : Addr} {od16 an16 : Option Addr} {sl16 : Array (Option Value)} {oc16 kV16 dc16 pm16 cd16 ct16 : Value}
    {f17 : Addr} {od17 an17 : Option Addr} {sl17 : Array (Option Value)} {oc17 kV17 dc17 pm17 cd17 ct17 : Value}
    {f18 : Addr} {od18 an18 : Option Addr} {sl18 : Array (Option Value)} {oc18 kV18 dc18 pm18 cd18 ct18 : Value}
    {f19 : Addr} {od19 an19 : Option Addr} {sl19 : Array (Option Value)} {oc19 kV19 dc19 pm19 cd19 ct19 : Value}
    {f20 : Addr} {od20 an20 : Option Addr} {sl20 : Array (Option Value)} {oc20 kV20 dc20 pm20 cd20 ct20 : Value}
    {f21 : Addr} {od21 an21 : Option Addr} {sl21 : Array (Option Value)} {oc21 kV21 dc21 pm21 cd21 ct21 : Value}
    {f22 : Addr} {od22 an22 : Option Addr} {sl22 : Array (Option Value)} {oc22 kV22 dc22 pm22 cd22 ct22 : Value}
    {f23 : Addr} {od23 an23 : Option Addr} {sl23 : Array (Option Value)} {oc23 kV23 dc23 pm23 cd23 ct23 : Value}
    {f24 : Addr} {od24 an24 : Option Addr} {sl24 : Array (Option Value)} {oc24 kV24 dc24 pm24 cd24 ct24 : Value}
    {f25 : Addr} {od25 an25 : Option Addr} {sl25 : Array (Option Value)} {oc25 kV25 dc25 pm25 cd25 ct25 : Value}
    {f26 : Addr} {od26 an26 : Option Addr} {sl26 : Array (Option Value)} {oc26 kV26 dc26 pm26 cd26 ct26 : Value}
    {f27 : Addr} {od27 an27 : Option Addr} {sl27 : Array (Option Value)} {oc27 kV27 dc27 pm27 cd27 ct27 : Value}
    {f28 : Addr} {od28 an28 : Option Addr} {sl28 : Array (Option Value)} {oc28 kV28 dc28 pm28 cd28 ct28 : Value}
    {f29 : Addr} {od29 an29 : Option Addr} {sl29 : Array (Option Value)} {oc29 kV29 dc29 pm29 cd29 ct29 : Value}
    {f30 : Addr} {od30 an30 : Option Addr} {sl30 : Array (Option Value)} {oc30 kV30 dc30 pm30 cd30 ct30 : Value}
    {f31 : Addr} {od31 an31 : Option Addr} {sl31 : Array (Option Value)} {oc31 kV31 dc31 pm31 cd31 ct31 : Value}
    {f32 : Addr} {od32 an32 : Option Addr} {sl32 : Array (Option Value)} {oc32 kV32 dc32 pm32 cd32 ct32 : Value}
    {f33 : Addr} {od33 an33 : Option Addr} {sl33 : Array (Option Value)} {oc33 kV33 dc33 pm33 cd33 ct33 : Value}
    {f34 : Addr} {od34 an34 : Option Addr} {sl34 : Array (Option Value)} {oc34 kV34 dc34 pm34 cd34 ct34 : Value}
    {f35 : Addr} {od35 an35 : Option Addr} {sl35 : Array (Option Value)} {oc35 kV35 dc35 pm35 cd35 ct35 : Value}
    {f36 : Addr} {od36 an36 : Option Addr} {sl36 : Array (Option Value)} {oc36 kV36 dc36 pm36 cd36 ct36 : Value}
    {f37 : Addr} {od37 an37 : Option Addr} {sl37 : Array (Option Value)} {oc37 kV37 dc37 pm37 cd37 ct37 : Value}
    {f38 : Addr} {od38 an38 : Option Addr} {sl38 : Array (Option Value)} {oc38 kV38 dc38 pm38 cd38 ct38 : Value}
    {f39 : Addr} {od39 an39 : Option Addr} {sl39 : Array (Option Value)} {oc39 kV39 dc39 pm39 cd39 ct39 : Value}
    {f40 : Addr} {od40 an40 : Option Addr} {sl40 : Array (Option Value)} {oc40 kV40 dc40 pm40 cd40 ct40 : Value}
    {f41 : Addr} {od41 an41 : Option Addr} {sl41 : Array (Option Value)} {oc41 kV41 dc41 pm41 cd41 ct41 : Value}
    {f42 : Addr} {od42 an42 : Option Addr} {sl42 : Array (Option Value)} {oc42 kV42 dc42 pm42 cd42 ct42 : Value}
    {f43 : Addr} {od43 an43 : Option Addr} {sl43 : Array (Option Value)} {oc43 kV43 dc43 pm43 cd43 ct43 : Value}
    {f44 : Addr} {od44 an44 : Option Addr} {sl44 : Array (Option Value)} {oc44 kV44 dc44 pm44 cd44 ct44 : Value}
    {f45 : Addr} {od45 an45 : Option Addr} {sl45 : Array (Option Value)} {oc45 kV45 dc45 pm45 cd45 ct45 : Value}
    {f46 : Addr} {od46 an46 : Option Addr} {sl46 : Array (Option Value)} {oc46 kV46 dc46 pm46 cd46 ct46 : Value}
    (a0 : PySem.W.nsIn K mainGlobals "all_bits" = some (some (.ref f0)))
    (l0 : K.lookup f0 = some ⟨oc0, od0, .func (PySem.W.fnOf "all_bits" "all_bits" (defArgs s_all_bits) (defBody s_all_bits) (defScope s_all_bits) .none kV0 dc0 pm0 an0 cd0 ct0), sl0⟩)
    (c0 : PySem.W.codeIn K cd0 "all_bits" = true) (k0 : PySem.W.keepIn K (.ref f0) = true)
    (a1 : PySem.W.nsIn K mainGlobals "first_carry" = some (some (.ref f1)))
    (l1 : K.lookup f1 = some ⟨oc1, od1, .func (PySem.W.fnOf "first_carry" "first_carry" (defArgs s_first_carry) (defBody s_first_carry) (defScope s_first_carry) .none kV1 dc1 pm1 an1 cd1 ct1), sl1⟩)
    (c1 : PySem.W.codeIn K cd1 "first_carry" = true) (k1 : PySem.W.keepIn K (.ref f1) = true)
    (a2 : PySem.W.nsIn K mainGlobals "deed_bit" = some (some (.ref f2)))
    (l2 : K.lookup f2 = some ⟨oc2, od2, .func (PySem.W.fnOf "deed_bit" "deed_bit" (defArgs s_deed_bit) (defBody s_deed_bit) (defScope s_deed_bit) .none kV2 dc2 pm2 an2 cd2 ct2), sl2⟩)
    (c2 : PySem.W.codeIn K cd2 "deed_bit" = true) (k2 : PySem.W.keepIn K (.ref f2) = true)
    (a3 : PySem.W.nsIn K mainGlobals "bits_of" = some (some (.ref f3)))
    (l3 : K.lookup f3 = some ⟨oc3, od3, .func (PySem.W.fnOf "bits_of" "bits_of" (defArgs s_bits_of) (defBody s_bits_of) (defScope s_bits_of) .none kV3 dc3 pm3 an3 cd3 ct3), sl3⟩)
    (c3 : PySem.W.codeIn K cd3 "bits_of" = true) (k3 : PySem.W.keepIn K (.ref f3) = true)
    (a4 : PySem.W.nsIn K mainGlobals "two_or_more" = some (some (.ref f4)))
    (l4 : K.lookup f4 = some ⟨oc4, od4, .func (PySem.W.fnOf "two_or_more" "two_or_more" (defArgs s_two_or_more) (defBody s_two_or_more) (defScope s_two_or_more) .none kV4 dc4 pm4 an4 cd4 ct4), sl4⟩)
    (c4 : PySem.W.codeIn K cd4 "two_or_more" = true) (k4 : PySem.W.keepIn K (.ref f4) = true)
    (a5 : PySem.W.nsIn K mainGlobals "deed_carry" = some (some (.ref f5)))
    (l5 : K.lookup f5 = some ⟨oc5, od5, .func (PySem.W.fnOf "deed_carry" "deed_carry" (defArgs s_deed_carry) (defBody s_deed_carry) (defScope s_deed_carry) .none kV5 dc5 pm5 an5 cd5 ct5), sl5⟩)
    (c5 : PySem.W.codeIn K cd5 "deed_carry" = true) (k5 : PySem.W.keepIn K (.ref f5) = true)
    (a6 : PySem.W.nsIn K mainGlobals "carry_behind" = some (some (.ref f6)))
    (l6 : K.lookup f6 = some ⟨oc6, od6, .func (PySem.W.fnOf "carry_behind" "carry_behind" (defArgs s_carry_behind) (defBody s_carry_behind) (defScope s_carry_behind) .none kV6 dc6 pm6 an6 cd6 ct6), sl6⟩)
    (c6 : PySem.W.codeIn K cd6 "carry_behind" = true) (k6 : PySem.W.keepIn K (.ref f6) = true)
    (a7 : PySem.W.nsIn K mainGlobals "steps" = some (some (.ref f7)))
    (l7 : K.lookup f7 = some ⟨oc7, od7, .func (PySem.W.fnOf "steps" "steps" (defArgs s_steps) (defBody s_steps) (defScope s_steps) .none kV7 dc7 pm7 an7 cd7 ct7), sl7⟩)
    (c7 : PySem.W.codeIn K cd7 "steps" = true) (k7 : PySem.W.keepIn K (.ref f7) = true)
    (a8 : PySem.W.nsIn K mainGlobals "carries" = some (some (.ref f8)))
    (l8 : K.lookup f8 = some ⟨oc8, od8, .func (PySem.W.fnOf "carries" "carries" (defArgs s_carries) (defBody s_carries) (defScope s_carries) .none kV8 dc8 pm8 an8 cd8 ct8), sl8⟩)
    (c8 : PySem.W.codeIn K cd8 "carries" = true) (k8 : PySem.W.keepIn K (.ref f8) = true)
    (a9 : PySem.W.nsIn K mainGlobals "is_whole" = some (some (.ref f9)))
    (l9 : K.lookup f9 = some ⟨oc9, od9, .func (PySem.W.fnOf "is_whole" "is_whole" (defArgs s_is_whole) (defBody s_is_whole) (defScope s_is_whole) .none kV9 dc9 pm9 an9 cd9 ct9), sl9⟩)
    (c9 : PySem.W.codeIn K cd9 "is_whole" = true) (k9 : PySem.W.keepIn K (.ref f9) = true)
    (a10 : PySem.W.nsIn K mainGlobals "renumbered" = some (some (.ref f10)))
    (l10 : K.lookup f10 = some ⟨oc10, od10, .func (PySem.W.fnOf "renumbered" "renumbered" (defArgs s_renumbered) (defBody s_renumbered) (defScope s_renumbered) .none kV10 dc10 pm10 an10 cd10 ct10), sl10⟩)
    (c10 : PySem.W.codeIn K cd10 "renumbered" = true) (k10 : PySem.W.keepIn K (.ref f10) = true)
    (a11 : PySem.W.nsIn K mainGlobals "first_alikes" = some (some (.ref f11)))
    (l11 : K.lookup f11 = some ⟨oc11, od11, .func (PySem.W.fnOf "first_alikes" "first_alikes" (defArgs s_first_alikes) (defBody s_first_alikes) (defScope s_first_alikes) .none kV11 dc11 pm11 an11 cd11 ct11), sl11⟩)
    (c11 : PySem.W.codeIn K cd11 "first_alikes" = true) (k11 : PySem.W.keepIn K (.ref f11) = true)
    (a12 : PySem.W.nsIn K mainGlobals "is_had" = some (some (.ref f12)))
    (l12 : K.lookup f12 = some ⟨oc12, od12, .func (PySem.W.fnOf "is_had" "is_had" (defArgs s_is_had) (defBody s_is_had) (defScope s_is_had) .none kV12 dc12 pm12 an12 cd12 ct12), sl12⟩)
    (c12 : PySem.W.codeIn K cd12 "is_had" = true) (k12 : PySem.W.keepIn K (.ref f12) = true)
    (a13 : PySem.W.nsIn K mainGlobals "fitting" = some (some (.ref f13)))
    (l13 : K.lookup f13 = some ⟨oc13, od13, .func (PySem.W.fnOf "fitting" "fitting" (defArgs s_fitting) (defBody s_fitting) (defScope s_fitting) .none kV13 dc13 pm13 an13 cd13 ct13), sl13⟩)
    (c13 : PySem.W.codeIn K cd13 "fitting" = true) (k13 : PySem.W.keepIn K (.ref f13) = true)
    (a14 : PySem.W.nsIn K mainGlobals "dropped" = some (some (.ref f14)))
    (l14 : K.lookup f14 = some ⟨oc14, od14, .func (PySem.W.fnOf "dropped" "dropped" (defArgs s_dropped) (defBody s_dropped) (defScope s_dropped) .none kV14 dc14 pm14 an14 cd14 ct14), sl14⟩)
    (c14 : PySem.W.codeIn K cd14 "dropped" = true) (k14 : PySem.W.keepIn K (.ref f14) = true)
    (a15 : PySem.W.nsIn K mainGlobals "brought_back" = some (some (.ref f15)))
    (l15 : K.lookup f15 = some ⟨oc15, od15, .func (PySem.W.fnOf "brought_back" "brought_back" (defArgs s_brought_back) (defBody s_brought_back) (defScope s_brought_back) .none kV15 dc15 pm15 an15 cd15 ct15), sl15⟩)
    (c15 : PySem.W.codeIn K cd15 "brought_back" = true) (k15 : PySem.W.keepIn K (.ref f15) = true)
    (a16 : PySem.W.nsIn K mainGlobals "is_fitting" = some (some (.ref f16)))
    (l16 : K.lookup f16 = some ⟨oc16, od16, .func (PySem.W.fnOf "is_fitting" "is_fitting" (defArgs s_is_fitting) (defBody s_is_fitting) (defScope s_is_fitting) .none kV16 dc16 pm16 an16 cd16 ct16), sl16⟩)
    (c16 : PySem.W.codeIn K cd16 "is_fitting" = true) (k16 : PySem.W.keepIn K (.ref f16) = true)
    (a17 : PySem.W.nsIn K mainGlobals "put_by" = some (some (.ref f17)))
    (l17 : K.lookup f17 = some ⟨oc17, od17, .func (PySem.W.fnOf "put_by" "put_by" (defArgs s_put_by) (defBody s_put_by) (defScope s_put_by) .none kV17 dc17 pm17 an17 cd17 ct17), sl17⟩)
    (c17 : PySem.W.codeIn K cd17 "put_by" = true) (k17 : PySem.W.keepIn K (.ref f17) = true)
    (a18 : PySem.W.nsIn K mainGlobals "is_the_very" = some (some (.ref f18)))
    (l18 : K.lookup f18 = some ⟨oc18, od18, .func (PySem.W.fnOf "is_the_very" "is_the_very" (defArgs s_is_the_very) (defBody s_is_the_very) (defScope s_is_the_very) .none kV18 dc18 pm18 an18 cd18 ct18), sl18⟩)
    (c18 : PySem.W.codeIn K cd18 "is_the_very" = true) (k18 : PySem.W.keepIn K (.ref f18) = true)
    (a19 : PySem.W.nsIn K mainGlobals "is_step" = some (some (.ref f19)))
    (l19 : K.lookup f19 = some ⟨oc19, od19, .func (PySem.W.fnOf "is_step" "is_step" (defArgs s_is_step) (defBody s_is_step) (defScope s_is_step) .none kV19 dc19 pm19 an19 cd19 ct19), sl19⟩)
    (c19 : PySem.W.codeIn K cd19 "is_step" = true) (k19 : PySem.W.keepIn K (.ref f19) = true)
    (a20 : PySem.W.nsIn K mainGlobals "is_chain" = some (some (.ref f20)))
    (l20 : K.lookup f20 = some ⟨oc20, od20, .func (PySem.W.fnOf "is_chain" "is_chain" (defArgs s_is_chain) (defBody s_is_chain) (defScope s_is_chain) .none kV20 dc20 pm20 an20 cd20 ct20), sl20⟩)
    (c20 : PySem.W.codeIn K cd20 "is_chain" = true) (k20 : PySem.W.keepIn K (.ref f20) = true)
    (a21 : PySem.W.nsIn K mainGlobals "_law_tape" = some (some (.ref f21)))
    (l21 : K.lookup f21 = some ⟨oc21, od21, .func (PySem.W.fnOf "_law_tape" "_law_tape" (defArgs s_law_tape) (defBody s_law_tape) (defScope s_law_tape) .none kV21 dc21 pm21 an21 cd21 ct21), sl21⟩)
    (c21 : PySem.W.codeIn K cd21 "_law_tape" = true) (k21 : PySem.W.keepIn K (.ref f21) = true)
    (a22 : PySem.W.nsIn K mainGlobals "_law_digit" = some (some (.ref f22)))
    (l22 : K.lookup f22 = some ⟨oc22, od22, .func (PySem.W.fnOf "_law_digit" "_law_digit" (defArgs s_law_digit) (defBody s_law_digit) (defScope s_law_digit) .none kV22 dc22 pm22 an22 cd22 ct22), sl22⟩)
    (c22 : PySem.W.codeIn K cd22 "_law_digit" = true) (k22 : PySem.W.keepIn K (.ref f22) = true)
    (a23 : PySem.W.nsIn K mainGlobals "_law_deed" = some (some (.ref f23)))
    (l23 : K.lookup f23 = some ⟨oc23, od23, .func (PySem.W.fnOf "_law_deed" "_law_deed" (defArgs s_law_deed) (defBody s_law_deed) (defScope s_law_deed) .none kV23 dc23 pm23 an23 cd23 ct23), sl23⟩)
    (c23 : PySem.W.codeIn K cd23 "_law_deed" = true) (k23 : PySem.W.keepIn K (.ref f23) = true)
    (a24 : PySem.W.nsIn K mainGlobals "_law_carrying" = some (some (.ref f24)))
    (l24 : K.lookup f24 = some ⟨oc24, od24, .func (PySem.W.fnOf "_law_carrying" "_law_carrying" (defArgs s_law_carrying) (defBody s_law_carrying) (defScope s_law_carrying) .none kV24 dc24 pm24 an24 cd24 ct24), sl24⟩)
    (c24 : PySem.W.codeIn K cd24 "_law_carrying" = true) (k24 : PySem.W.keepIn K (.ref f24) = true)
    (a25 : PySem.W.nsIn K mainGlobals "_law_row" = some (some (.ref f25)))
    (l25 : K.lookup f25 = some ⟨oc25, od25, .func (PySem.W.fnOf "_law_row" "_law_row" (defArgs s_law_row) (defBody s_law_row) (defScope s_law_row) .none kV25 dc25 pm25 an25 cd25 ct25), sl25⟩)
    (c25 : PySem.W.codeIn K cd25 "_law_row" = true) (k25 : PySem.W.keepIn K (.ref f25) = true)
    (a26 : PySem.W.nsIn K mainGlobals "_law_bit" = some (some (.ref f26)))
    (l26 : K.lookup f26 = some ⟨oc26, od26, .func (PySem.W.fnOf "_law_bit" "_law_bit" (defArgs s_law_bit) (defBody s_law_bit) (defScope s_law_bit) .none kV26 dc26 pm26 an26 cd26 ct26), sl26⟩)
    (c26 : PySem.W.codeIn K cd26 "_law_bit" = true) (k26 : PySem.W.keepIn K (.ref f26) = true)
    (a27 : PySem.W.nsIn K mainGlobals "_law_carry" = some (some (.ref f27)))
    (l27 : K.lookup f27 = some ⟨oc27, od27, .func (PySem.W.fnOf "_law_carry" "_law_carry" (defArgs s_law_carry) (defBody s_law_carry) (defScope s_law_carry) .none kV27 dc27 pm27 an27 cd27 ct27), sl27⟩)
    (c27 : PySem.W.codeIn K cd27 "_law_carry" = true) (k27 : PySem.W.keepIn K (.ref f27) = true)
    (a28 : PySem.W.nsIn K mainGlobals "_law_step" = some (some (.ref f28)))
    (l28 : K.lookup f28 = some ⟨oc28, od28, .func (PySem.W.fnOf "_law_step" "_law_step" (defArgs s_law_step) (defBody s_law_step) (defScope s_law_step) .none kV28 dc28 pm28 an28 cd28 ct28), sl28⟩)
    (c28 : PySem.W.codeIn K cd28 "_law_step" = true) (k28 : PySem.W.keepIn K (.ref f28) = true)
    (a29 : PySem.W.nsIn K mainGlobals "_law_first" = some (some (.ref f29)))
    (l29 : K.lookup f29 = some ⟨oc29, od29, .func (PySem.W.fnOf "_law_first" "_law_first" (defArgs s_law_first) (defBody s_law_first) (defScope s_law_first) .none kV29 dc29 pm29 an29 cd29 ct29), sl29⟩)
    (c29 : PySem.W.codeIn K cd29 "_law_first" = true) (k29 : PySem.W.keepIn K (.ref f29) = true)
    (a30 : PySem.W.nsIn K mainGlobals "_law_bits" = some (some (.ref f30)))
    (l30 : K.lookup f30 = some ⟨oc30, od30, .func (PySem.W.fnOf "_law_bits" "_law_bits" (defArgs s_law_bits) (defBody s_law_bits) (defScope s_law_bits) .none kV30 dc30 pm30 an30 cd30 ct30), sl30⟩)
    (c30 : PySem.W.codeIn K cd30 "_law_bits" = true) (k30 : PySem.W.keepIn K (.ref f30) = true)
    (a31 : PySem.W.nsIn K mainGlobals "_law_rewritten" = some (some (.ref f31)))
    (l31 : K.lookup f31 = some ⟨oc31, od31, .func (PySem.W.fnOf "_law_rewritten" "_law_rewritten" (defArgs s_law_rewritten) (defBody s_law_rewritten) (defScope s_law_rewritten) .none kV31 dc31 pm31 an31 cd31 ct31), sl31⟩)
    (c31 : PySem.W.codeIn K cd31 "_law_rewritten" = true) (k31 : PySem.W.keepIn K (.ref f31) = true)
    (a32 : PySem.W.nsIn K mainGlobals "_law_long_row" = some (some (.ref f32)))
    (l32 : K.lookup f32 = some ⟨oc32, od32, .func (PySem.W.fnOf "_law_long_row" "_law_long_row" (defArgs s_law_long_row) (defBody s_law_long_row) (defScope s_law_long_row) .none kV32 dc32 pm32 an32 cd32 ct32), sl32⟩)
    (c32 : PySem.W.codeIn K cd32 "_law_long_row" = true) (k32 : PySem.W.keepIn K (.ref f32) = true)
    (a33 : PySem.W.nsIn K mainGlobals "_law_used" = some (some (.ref f33)))
    (l33 : K.lookup f33 = some ⟨oc33, od33, .func (PySem.W.fnOf "_law_used" "_law_used" (defArgs s_law_used) (defBody s_law_used) (defScope s_law_used) .none kV33 dc33 pm33 an33 cd33 ct33), sl33⟩)
    (c33 : PySem.W.codeIn K cd33 "_law_used" = true) (k33 : PySem.W.keepIn K (.ref f33) = true)
    (a34 : PySem.W.nsIn K mainGlobals "_law_up_to" = some (some (.ref f34)))
    (l34 : K.lookup f34 = some ⟨oc34, od34, .func (PySem.W.fnOf "_law_up_to" "_law_up_to" (defArgs s_law_up_to) (defBody s_law_up_to) (defScope s_law_up_to) .none kV34 dc34 pm34 an34 cd34 ct34), sl34⟩)
    (c34 : PySem.W.codeIn K cd34 "_law_up_to" = true) (k34 : PySem.W.keepIn K (.ref f34) = true)
    (a35 : PySem.W.nsIn K mainGlobals "_law_one_worth" = some (some (.ref f35)))
    (l35 : K.lookup f35 = some ⟨oc35, od35, .func (PySem.W.fnOf "_law_one_worth" "_law_one_worth" (defArgs s_law_one_worth) (defBody s_law_one_worth) (defScope s_law_one_worth) .none kV35 dc35 pm35 an35 cd35 ct35), sl35⟩)
    (c35 : PySem.W.codeIn K cd35 "_law_one_worth" = true) (k35 : PySem.W.keepIn K (.ref f35) = true)
    (a36 : PySem.W.nsIn K mainGlobals "_law_first_like" = some (some (.ref f36)))
    (l36 : K.lookup f36 = some ⟨oc36, od36, .func (PySem.W.fnOf "_law_first_like" "_law_first_like" (defArgs s_law_first_like) (defBody s_law_first_like) (defScope s_law_first_like) .none kV36 dc36 pm36 an36 cd36 ct36), sl36⟩)
    (c36 : PySem.W.codeIn K cd36 "_law_first_like" = true) (k36 : PySem.W.keepIn K (.ref f36) = true)
    (a37 : PySem.W.nsIn K mainGlobals "_law_without" = some (some (.ref f37)))
    (l37 : K.lookup f37 = some ⟨oc37, od37, .func (PySem.W.fnOf "_law_without" "_law_without" (defArgs s_law_without) (defBody s_law_without) (defScope s_law_without) .none kV37 dc37 pm37 an37 cd37 ct37), sl37⟩)
    (c37 : PySem.W.codeIn K cd37 "_law_without" = true) (k37 : PySem.W.keepIn K (.ref f37) = true)
    (a38 : PySem.W.nsIn K mainGlobals "_law_with" = some (some (.ref f38)))
    (l38 : K.lookup f38 = some ⟨oc38, od38, .func (PySem.W.fnOf "_law_with" "_law_with" (defArgs s_law_with) (defBody s_law_with) (defScope s_law_with) .none kV38 dc38 pm38 an38 cd38 ct38), sl38⟩)
    (c38 : PySem.W.codeIn K cd38 "_law_with" = true) (k38 : PySem.W.keepIn K (.ref f38) = true)
    (a39 : PySem.W.nsIn K mainGlobals "_law_fitting" = some (some (.ref f39)))
    (l39 : K.lookup f39 = some ⟨oc39, od39, .func (PySem.W.fnOf "_law_fitting" "_law_fitting" (defArgs s_law_fitting) (defBody s_law_fitting) (defScope s_law_fitting) .none kV39 dc39 pm39 an39 cd39 ct39), sl39⟩)
    (c39 : PySem.W.codeIn K cd39 "_law_fitting" = true) (k39 : PySem.W.keepIn K (.ref f39) = true)
    (a40 : PySem.W.nsIn K mainGlobals "_law_put" = some (some (.ref f40)))
    (l40 : K.lookup f40 = some ⟨oc40, od40, .func (PySem.W.fnOf "_law_put" "_law_put" (defArgs s_law_put) (defBody s_law_put) (defScope s_law_put) .none kV40 dc40 pm40 an40 cd40 ct40), sl40⟩)
    (c40 : PySem.W.codeIn K cd40 "_law_put" = true) (k40 : PySem.W.keepIn K (.ref f40) = true)
    (a41 : PySem.W.nsIn K mainGlobals "_law_made" = some (some (.ref f41)))
    (l41 : K.lookup f41 = some ⟨oc41, od41, .func (PySem.W.fnOf "_law_made" "_law_made" (defArgs s_law_made) (defBody s_law_made) (defScope s_law_made) .none kV41 dc41 pm41 an41 cd41 ct41), sl41⟩)
    (c41 : PySem.W.codeIn K cd41 "_law_made" = true) (k41 : PySem.W.keepIn K (.ref f41) = true)
    (a42 : PySem.W.nsIn K mainGlobals "_law_right" = some (some (.ref f42)))
    (l42 : K.lookup f42 = some ⟨oc42, od42, .func (PySem.W.fnOf "_law_right" "_law_right" (defArgs s_law_right) (defBody s_law_right) (defScope s_law_right) .none kV42 dc42 pm42 an42 cd42 ct42), sl42⟩)
    (c42 : PySem.W.codeIn K cd42 "_law_right" = true) (k42 : PySem.W.keepIn K (.ref f42) = true)
    (a43 : PySem.W.nsIn K mainGlobals "_law_odd_row" = some (some (.ref f43)))
    (l43 : K.lookup f43 = some ⟨oc43, od43, .func (PySem.W.fnOf "_law_odd_row" "_law_odd_row" (defArgs s_law_odd_row) (defBody s_law_odd_row) (defScope s_law_odd_row) .none kV43 dc43 pm43 an43 cd43 ct43), sl43⟩)
    (c43 : PySem.W.codeIn K cd43 "_law_odd_row" = true) (k43 : PySem.W.keepIn K (.ref f43) = true)
    (a44 : PySem.W.nsIn K mainGlobals "_law_bent_step" = some (some (.ref f44)))
    (l44 : K.lookup f44 = some ⟨oc44, od44, .func (PySem.W.fnOf "_law_bent_step" "_law_bent_step" (defArgs s_law_bent_step) (defBody s_law_bent_step) (defScope s_law_bent_step) .none kV44 dc44 pm44 an44 cd44 ct44), sl44⟩)
    (c44 : PySem.W.codeIn K cd44 "_law_bent_step" = true) (k44 : PySem.W.keepIn K (.ref f44) = true)
    (a45 : PySem.W.nsIn K mainGlobals "_law_bent" = some (some (.ref f45)))
    (l45 : K.lookup f45 = some ⟨oc45, od45, .func (PySem.W.fnOf "_law_bent" "_law_bent" (defArgs s_law_bent) (defBody s_law_bent) (defScope s_law_bent) .none kV45 dc45 pm45 an45 cd45 ct45), sl45⟩)
    (c45 : PySem.W.codeIn K cd45 "_law_bent" = true) (k45 : PySem.W.keepIn K (.ref f45) = true)
    (a46 : PySem.W.nsIn K mainGlobals "law" = some (some (.ref f46)))
    (l46 : K.lookup f46 = some ⟨oc46, od46, .func (PySem.W.fnOf "law" "law" (defArgs s_law) (defBody s_law) (defScope s_law) .none kV46 dc46 pm46 an46 cd46 ct46), sl46⟩)
    (c46 : PySem.W.codeIn K cd46 "law" = true) (k46 : PySem.W.keepIn K (.ref f46) = true)
    (z_abs : PySem.W.nsIn K mainGlobals "abs" = some none)
    (z_all : PySem.W.nsIn K mainGlobals "all" = some none)
    (z_any : PySem.W.nsIn K mainGlobals "any" = some none)
    (z_bool : PySem.W.nsIn K mainGlobals "bool" = some none)
    (z_enumerate : PySem.W.nsIn K mainGlobals "enumerate" = some none)
    (z_int : PySem.W.nsIn K mainGlobals "int" = some none)
    (z_isinstance : PySem.W.nsIn K mainGlobals "isinstance" = some none)
    (z_len : PySem.W.nsIn K mainGlobals "len" = some none)
    (z_list : PySem.W.nsIn K mainGlobals "list" = some none)
    (z_max : PySem.W.nsIn K mainGlobals "max" = some none)
    (z_min : PySem.W.nsIn K mainGlobals "min" = some none)
    (z_range : PySem.W.nsIn K mainGlobals "range" = some none)
    (z_repr : PySem.W.nsIn K mainGlobals "repr" = some none)
    (z_set : PySem.W.nsIn K mainGlobals "set" = some none)
    (z_sorted : PySem.W.nsIn K mainGlobals "sorted" = some none)
    (z_str : PySem.W.nsIn K mainGlobals "str" = some none)
    (z_tuple : PySem.W.nsIn K mainGlobals "tuple" = some none)
    (z_zip : PySem.W.nsIn K mainGlobals "zip" = some none)
    : ∀ (s : Shared) (a : Addr) (ns : List Int) (base : Heap) (H : Hp), ns.length ≤ 63 → (∀ z ∈ ns, Builtin.Int.intBits z ≤ 1048576) → Env0 l.prog w K mg base callerA [] s H → SqL K H a (ns.map V.int) →
      codeAny (model l.prog w) callerA (.call (.ref fa) ⟨[.ref a], []⟩) (CR CX0 [] l.prog w H s (fun v _ => v = .bl true) E0) s := by
  have F_all_bits := fun_mk (st := s_all_bits) l0 c0 k0
  have b_all_bits := F_all_bits.binds (ps := ["many"]) fun _ _ _ _ _ _ us hl => by
    obtain ⟨_, rfl⟩ := awL1 hl
    rfl
  have g_all_bits := PySem.W.mg_of X G a0
  have F_first_carry := fun_mk (st := s_first_carry) l1 c1 k1
  have b_first_carry := F_first_carry.binds (ps := ["row"]) fun _ _ _ _ _ _ us hl => by
    obtain ⟨_, rfl⟩ := awL1 hl
    rfl
  have g_first_carry := PySem.W.mg_of X G a1
  have F_deed_bit := fun_mk (st := s_deed_bit) l2 c2 k2
  have b_deed_bit := F_deed_bit.binds (ps := ["deed", "held", "told"]) fun _ _ _ _ _ _ us hl => by
    obtain ⟨_, _, _, rfl⟩ := awL3 hl
    rfl
  have g_deed_bit := PySem.W.mg_of X G a2
  have F_bits_of := fun_mk (st := s_bits_of) l3 c3 k3
  have b_bits_of := F_bits_of.binds (ps := ["row", "carry", "bits"]) fun _ _ _ _ _ _ us hl => by
    obtain ⟨_, _, _, rfl⟩ := awL3 hl
    rfl
  have g_bits_of := PySem.W.mg_of X G a3
  have F_two_or_more := fun_mk (st := s_two_or_more) l4 c4 k4
  have b_two_or_more := F_two_or_more.binds (ps := ["one", "other", "third"]) fun _ _ _ _ _ _ us hl => by
    obtain ⟨_, _, _, rfl⟩ := awL3 hl
    rfl
  have g_two_or_more := PySem.W.mg_of X G a4
  have F_deed_carry := fun_mk (st := s_deed_carry) l5 c5 k5
  have b_deed_carry := F_deed_carry.binds (ps := ["deed", "held", "told"]) fun _ _ _ _ _ _ us hl => by
    obtain ⟨_, _, _, rfl⟩ := awL3 hl
    rfl
  have g_deed_carry := PySem.W.mg_of X G a5
  have F_carry_behind := fun_mk (st := s_carry_behind) l6 c6 k6
  have b_carry_behind := F_carry_behind.binds (ps := ["row", "carry", "told"]) fun _ _ _ _ _ _ us hl => by
    obtain ⟨_, _, _, rfl⟩ := awL3 hl
    rfl
  have g_carry_behind := PySem.W.mg_of X G a6
  have F_steps := fun_mk (st := s_steps) l7 c7 k7
  have b_steps := F_steps.binds (ps := ["row", "carry"]) fun _ _ _ _ _ _ us hl => by
    obtain ⟨_, _, rfl⟩ := awL2 hl
    rfl
  have g_steps := PySem.W.mg_of X G a7
  have F_carries := fun_mk (st := s_carries) l8 c8 k8
  have b_carries := F_carries.binds (ps := ["row"]) fun _ _ _ _ _ _ us hl => by
    obtain ⟨_, rfl⟩ := awL1 hl
    rfl
  have g_carries := PySem.W.mg_of X G a8
  have F_is_whole := fun_mk (st := s_is_whole) l9 c9 k9
  have b_is_whole := F_is_whole.binds (ps := ["thing"]) fun _ _ _ _ _ _ us hl => by
    obtain ⟨_, rfl⟩ := awL1 hl
    rfl
  have g_is_whole := PySem.W.mg_of X G a9
  have F_renumbered := fun_mk (st := s_renumbered) l10 c10 k10
  have b_renumbered := F_renumbered.binds (ps := ["deed", "numbers"]) fun _ _ _ _ _ _ us hl => by
    obtain ⟨_, _, rfl⟩ := awL2 hl
    rfl
  have g_renumbered := PySem.W.mg_of X G a10
  have F_first_alikes := fun_mk (st := s_first_alikes) l11 c11 k11
  have b_first_alikes := F_first_alikes.binds (ps := ["row"]) fun _ _ _ _ _ _ us hl => by
    obtain ⟨_, rfl⟩ := awL1 hl
    rfl
  have g_first_alikes := PySem.W.mg_of X G a11
  have F_is_had := fun_mk (st := s_is_had) l12 c12 k12
  have b_is_had := F_is_had.binds (ps := ["row", "value"]) fun _ _ _ _ _ _ us hl => by
    obtain ⟨_, _, rfl⟩ := awL2 hl
    rfl
  have g_is_had := PySem.W.mg_of X G a12
  have F_fitting := fun_mk (st := s_fitting) l13 c13 k13
  have b_fitting := F_fitting.binds (ps := ["row"]) fun _ _ _ _ _ _ us hl => by
    obtain ⟨_, rfl⟩ := awL1 hl
    rfl
  have g_fitting := PySem.W.mg_of X G a13
  have F_dropped := fun_mk (st := s_dropped) l14 c14 k14
  have b_dropped := F_dropped.binds (ps := ["row", "value"]) fun _ _ _ _ _ _ us hl => by
    obtain ⟨_, _, rfl⟩ := awL2 hl
    rfl
  have g_dropped := PySem.W.mg_of X G a14
  have F_brought_back := fun_mk (st := s_brought_back) l15 c15 k15
  have b_brought_back := F_brought_back.binds (ps := ["row", "value"]) fun _ _ _ _ _ _ us hl => by
    obtain ⟨_, _, rfl⟩ := awL2 hl
    rfl
  have g_brought_back := PySem.W.mg_of X G a15
  have F_is_fitting := fun_mk (st := s_is_fitting) l16 c16 k16
  have b_is_fitting := F_is_fitting.binds (ps := ["row", "rule", "value"]) fun _ _ _ _ _ _ us hl => by
    obtain ⟨_, _, _, rfl⟩ := awL3 hl
    rfl
  have g_is_fitting := PySem.W.mg_of X G a16
  have F_put_by := fun_mk (st := s_put_by) l17 c17 k17
  have b_put_by := F_put_by.binds (ps := ["row", "rule", "value"]) fun _ _ _ _ _ _ us hl => by
    obtain ⟨_, _, _, rfl⟩ := awL3 hl
    rfl
  have g_put_by := PySem.W.mg_of X G a17
  have F_is_the_very := fun_mk (st := s_is_the_very) l18 c18 k18
  have b_is_the_very := F_is_the_very.binds (ps := ["thing", "wanted"]) fun _ _ _ _ _ _ us hl => by
    obtain ⟨_, _, rfl⟩ := awL2 hl
    rfl
  have g_is_the_very := PySem.W.mg_of X G a18
  have F_is_step := fun_mk (st := s_is_step) l19 c19 k19
  have b_is_step := F_is_step.binds (ps := ["row", "thing"]) fun _ _ _ _ _ _ us hl => by
    obtain ⟨_, _, rfl⟩ := awL2 hl
    rfl
  have g_is_step := PySem.W.mg_of X G a19
  have F_is_chain := fun_mk (st := s_is_chain) l20 c20 k20
  have b_is_chain := F_is_chain.binds (ps := ["row", "thing"]) fun _ _ _ _ _ _ us hl => by
    obtain ⟨_, _, rfl⟩ := awL2 hl
    rfl
  have g_is_chain := PySem.W.mg_of X G a20
  have F_law_tape := fun_mk (st := s_law_tape) l21 c21 k21
  have b_law_tape := F_law_tape.binds (ps := ["script", "start"]) fun _ _ _ _ _ _ us hl => by
    obtain ⟨_, _, rfl⟩ := awL2 hl
    rfl
  have g_law_tape := PySem.W.mg_of X G a21
  have F_law_digit := fun_mk (st := s_law_digit) l22 c22 k22
  have b_law_digit := F_law_digit.binds (ps := ["tape", "many"]) fun _ _ _ _ _ _ us hl => by
    obtain ⟨_, _, rfl⟩ := awL2 hl
    rfl
  have g_law_digit := PySem.W.mg_of X G a22
  have F_law_deed := fun_mk (st := s_law_deed) l23 c23 k23
  have b_law_deed := F_law_deed.binds (ps := ["tape", "ahead", "left"]) fun _ _ _ _ _ _ us hl => by
    obtain ⟨_, _, _, rfl⟩ := awL3 hl
    rfl
  have g_law_deed := PySem.W.mg_of X G a23
  have F_law_carrying := fun_mk (st := s_law_carrying) l24 c24 k24
  have b_law_carrying := F_law_carrying.binds (ps := ["deeds"]) fun _ _ _ _ _ _ us hl => by
    obtain ⟨_, rfl⟩ := awL1 hl
    rfl
  have g_law_carrying := PySem.W.mg_of X G a24
  have F_law_row := fun_mk (st := s_law_row) l25 c25 k25
  have b_law_row := F_law_row.binds (ps := ["tape", "many", "most", "left"]) fun _ _ _ _ _ _ us hl => by
    obtain ⟨_, _, _, _, rfl⟩ := awL4 hl
    rfl
  have g_law_row := PySem.W.mg_of X G a25
  have F_law_bit := fun_mk (st := s_law_bit) l26 c26 k26
  have b_law_bit := F_law_bit.binds (ps := ["deed", "carry", "bits"]) fun _ _ _ _ _ _ us hl => by
    obtain ⟨_, _, _, rfl⟩ := awL3 hl
    rfl
  have g_law_bit := PySem.W.mg_of X G a26
  have F_law_carry := fun_mk (st := s_law_carry) l27 c27 k27
  have b_law_carry := F_law_carry.binds (ps := ["deed", "carry", "bits"]) fun _ _ _ _ _ _ us hl => by
    obtain ⟨_, _, _, rfl⟩ := awL3 hl
    rfl
  have g_law_carry := PySem.W.mg_of X G a27
  have F_law_step := fun_mk (st := s_law_step) l28 c28 k28
  have b_law_step := F_law_step.binds (ps := ["row", "carry", "bits"]) fun _ _ _ _ _ _ us hl => by
    obtain ⟨_, _, _, rfl⟩ := awL3 hl
    rfl
  have g_law_step := PySem.W.mg_of X G a28
  have F_law_first := fun_mk (st := s_law_first) l29 c29 k29
  have b_law_first := F_law_first.binds (ps := ["row"]) fun _ _ _ _ _ _ us hl => by
    obtain ⟨_, rfl⟩ := awL1 hl
    rfl
  have g_law_first := PySem.W.mg_of X G a29
  have F_law_bits := fun_mk (st := s_law_bits) l30 c30 k30
  have b_law_bits := F_law_bits.binds (ps := ["many"]) fun _ _ _ _ _ _ us hl => by
    obtain ⟨_, rfl⟩ := awL1 hl
    rfl
  have g_law_bits := PySem.W.mg_of X G a30
  have F_law_rewritten := fun_mk (st := s_law_rewritten) l31 c31 k31
  have b_law_rewritten := F_law_rewritten.binds (ps := ["tape", "deed", "at"]) fun _ _ _ _ _ _ us hl => by
    obtain ⟨_, _, _, rfl⟩ := awL3 hl
    rfl
  have g_law_rewritten := PySem.W.mg_of X G a31
  have F_law_long_row := fun_mk (st := s_law_long_row) l32 c32 k32
  have b_law_long_row := F_law_long_row.binds (ps := ["tape"]) fun _ _ _ _ _ _ us hl => by
    obtain ⟨_, rfl⟩ := awL1 hl
    rfl
  have g_law_long_row := PySem.W.mg_of X G a32
  have F_law_used := fun_mk (st := s_law_used) l33 c33 k33
  have b_law_used := F_law_used.binds (ps := ["row", "value"]) fun _ _ _ _ _ _ us hl => by
    obtain ⟨_, _, rfl⟩ := awL2 hl
    rfl
  have g_law_used := PySem.W.mg_of X G a33
  have F_law_up_to := fun_mk (st := s_law_up_to) l34 c34 k34
  have b_law_up_to := F_law_up_to.binds (ps := ["row", "value"]) fun _ _ _ _ _ _ us hl => by
    obtain ⟨_, _, rfl⟩ := awL2 hl
    rfl
  have g_law_up_to := PySem.W.mg_of X G a34
  have F_law_one_worth := fun_mk (st := s_law_one_worth) l35 c35 k35
  have b_law_one_worth := F_law_one_worth.binds (ps := ["row", "one", "other"]) fun _ _ _ _ _ _ us hl => by
    obtain ⟨_, _, _, rfl⟩ := awL3 hl
    rfl
  have g_law_one_worth := PySem.W.mg_of X G a35
  have F_law_first_like := fun_mk (st := s_law_first_like) l36 c36 k36
  have b_law_first_like := F_law_first_like.binds (ps := ["row", "value"]) fun _ _ _ _ _ _ us hl => by
    obtain ⟨_, _, rfl⟩ := awL2 hl
    rfl
  have g_law_first_like := PySem.W.mg_of X G a36
  have F_law_without := fun_mk (st := s_law_without) l37 c37 k37
  have b_law_without := F_law_without.binds (ps := ["row", "value"]) fun _ _ _ _ _ _ us hl => by
    obtain ⟨_, _, rfl⟩ := awL2 hl
    rfl
  have g_law_without := PySem.W.mg_of X G a37
  have F_law_with := fun_mk (st := s_law_with) l38 c38 k38
  have b_law_with := F_law_with.binds (ps := ["row", "value", "other"]) fun _ _ _ _ _ _ us hl => by
    obtain ⟨_, _, _, rfl⟩ := awL3 hl
    rfl
  have g_law_with := PySem.W.mg_of X G a38
  have F_law_fitting := fun_mk (st := s_law_fitting) l39 c39 k39
  have b_law_fitting := F_law_fitting.binds (ps := ["row"]) fun _ _ _ _ _ _ us hl => by
    obtain ⟨_, rfl⟩ := awL1 hl
    rfl
  have g_law_fitting := PySem.W.mg_of X G a39
  have F_law_put := fun_mk (st := s_law_put) l40 c40 k40
  have b_law_put := F_law_put.binds (ps := ["row", "rule", "value"]) fun _ _ _ _ _ _ us hl => by
    obtain ⟨_, _, _, rfl⟩ := awL3 hl
    rfl
  have g_law_put := PySem.W.mg_of X G a40
  have F_law_made := fun_mk (st := s_law_made) l41 c41 k41
  have b_law_made := F_law_made.binds (ps := ["tape", "row"]) fun _ _ _ _ _ _ us hl => by
    obtain ⟨_, _, rfl⟩ := awL2 hl
    rfl
  have g_law_made := PySem.W.mg_of X G a41
  have F_law_right := fun_mk (st := s_law_right) l42 c42 k42
  have b_law_right := F_law_right.binds (ps := ["row", "thing"]) fun _ _ _ _ _ _ us hl => by
    obtain ⟨_, _, rfl⟩ := awL2 hl
    rfl
  have g_law_right := PySem.W.mg_of X G a42
  have F_law_odd_row := fun_mk (st := s_law_odd_row) l43 c43 k43
  have b_law_odd_row := F_law_odd_row.binds (ps := ["tape", "row"]) fun _ _ _ _ _ _ us hl => by
    obtain ⟨_, _, rfl⟩ := awL2 hl
    rfl
  have g_law_odd_row := PySem.W.mg_of X G a43
  have F_law_bent_step := fun_mk (st := s_law_bent_step) l44 c44 k44
  have b_law_bent_step := F_law_bent_step.binds (ps := ["tape", "step"]) fun _ _ _ _ _ _ us hl => by
    obtain ⟨_, _, rfl⟩ := awL2 hl
    rfl
  have g_law_bent_step := PySem.W.mg_of X G a44
  have F_law_bent := fun_mk (st := s_law_bent) l45 c45 k45
  have b_law_bent := F_law_bent.binds (ps := ["tape", "chain"]) fun _ _ _ _ _ _ us hl => by
    obtain ⟨_, _, rfl⟩ := awL2 hl
    rfl
  have g_law_bent := PySem.W.mg_of X G a45
  have F_law := fun_mk (st := s_law) l46 c46 k46
  have b_law := F_law.binds (ps := ["script"]) fun _ _ _ _ _ _ us hl => by
    obtain ⟨_, rfl⟩ := awL1 hl
    rfl
  obtain rfl : fa = f46 := by
    have e := hfa.symm.trans (PySem.W.mg_of X G a46)
    cases e
    rfl
  have m_abs := PySem.W.mg_none_of X G z_abs
  have m_all := PySem.W.mg_none_of X G z_all
  have m_any := PySem.W.mg_none_of X G z_any
  have m_bool := PySem.W.mg_none_of X G z_bool
  have m_enumerate := PySem.W.mg_none_of X G z_enumerate
  have m_int := PySem.W.mg_none_of X G z_int
  have m_isinstance := PySem.W.mg_none_of X G z_isinstance
  have m_len := PySem.W.mg_none_of X G z_len
  have m_list := PySem.W.mg_none_of X G z_list
  have m_max := PySem.W.mg_none_of X G z_max
  have m_min := PySem.W.mg_none_of X G z_min
  have m_range := PySem.W.mg_none_of X G z_range
  have m_repr := PySem.W.mg_none_of X G z_repr
  have m_set := PySem.W.mg_none_of X G z_set
  have m_sorted := PySem.W.mg_none_of X G z_sorted
  have m_str := PySem.W.mg_none_of X G z_str
  have m_tuple := PySem.W.mg_none_of X G z_tuple
  have m_zip := PySem.W.mg_none_of X G z_zip
  intro s a ns base H hlen hbits e0 hS
  have GT := ok_tape (P := l.prog) (w := w) (mg := mg) (base := base) (k := 0) F_law_tape m_abs m_len
  have GD := ok_digit (P := l.prog) (w := w) (mg := mg) (base := base) (k := 0) F_law_digit
  have GE := ok_td (P := l.prog) (w := w) (mg := mg) (base := base) (k := 0) F_law_deed GD F_law_digit.kp b_law_digit g_law_digit
  have GCr := ok_cr (P := l.prog) (w := w) (mg := mg) (base := base) (k := 0) F_law_carrying m_len
  have GR := ok_tr (P := l.prog) (w := w) (mg := mg) (base := base) (k := 0) F_law_row GD F_law_digit.kp GE F_law_deed.kp GCr F_law_carrying.kp b_law_digit b_law_deed b_law_carrying g_law_digit g_law_deed g_law_carrying m_tuple m_range m_len
  have GF := ok_fc (P := l.prog) (w := w) (mg := mg) (base := base) (k := 0) F_first_carry m_tuple
  have GDb := ok_db (P := l.prog) (w := w) (mg := mg) (base := base) (k := 0) F_deed_bit
  have GB := ok_bo (P := l.prog) (w := w) (mg := mg) (base := base) (k := 0) F_bits_of GDb F_deed_bit.kp b_deed_bit g_deed_bit m_list m_tuple m_zip
  have GTm := ok_tm (P := l.prog) (w := w) (mg := mg) (base := base) (k := 0) F_two_or_more
  have GDc := ok_dc (P := l.prog) (w := w) (mg := mg) (base := base) (k := 0) F_deed_carry GTm F_two_or_more.kp b_two_or_more g_two_or_more
  have GCb := ok_cb (P := l.prog) (w := w) (mg := mg) (base := base) (k := 0) F_carry_behind GDc F_deed_carry.kp b_deed_carry g_deed_carry m_tuple m_zip
  have GAl := ok_all (P := l.prog) (w := w) (mg := mg) (base := base) (k := 0) F_all_bits m_range
  have GSt := ok_st (P := l.prog) (w := w) (mg := mg) (base := base) (k := 0) F_steps GAl F_all_bits.kp b_all_bits g_all_bits GB F_bits_of.kp b_bits_of g_bits_of GCb F_carry_behind.kp b_carry_behind g_carry_behind
  have GC := ok_ca (P := l.prog) (w := w) (mg := mg) (base := base) (k := 0) F_carries GF F_first_carry.kp b_first_carry g_first_carry GSt F_steps.kp b_steps g_steps m_set m_sorted
  have GLb := ok_lb (P := l.prog) (w := w) (mg := mg) (base := base) (k := 0) F_law_bit m_int m_max
  have GLc := ok_lc (P := l.prog) (w := w) (mg := mg) (base := base) (k := 0) F_law_carry m_int
  have GLs := ok_ls (P := l.prog) (w := w) (mg := mg) (base := base) (k := 0) F_law_step GLb F_law_bit.kp b_law_bit g_law_bit GLc F_law_carry.kp b_law_carry g_law_carry m_list m_tuple m_zip
  have GLf := ok_lf (P := l.prog) (w := w) (mg := mg) (base := base) (k := 0) F_law_first m_tuple m_int
  have GAb := ok_abf (P := l.prog) (w := w) (mg := mg) (base := base) (k := 0) F_law_bits m_range m_sorted
  have GRw := ok_rw (P := l.prog) (w := w) (mg := mg) (base := base) (k := 0) F_law_rewritten GD F_law_digit.kp b_law_digit g_law_digit
  have GLg := ok_lg (P := l.prog) (w := w) (mg := mg) (base := base) (k := 0) F_law_long_row GD F_law_digit.kp b_law_digit g_law_digit GR F_law_row.kp b_law_row g_law_row GRw F_law_rewritten.kp b_law_rewritten g_law_rewritten m_range m_len m_tuple
  have GFa := ok_fa (P := l.prog) (w := w) (mg := mg) (base := base) (k := 0) F_first_alikes GC F_carries.kp b_carries g_carries GAl F_all_bits.kp b_all_bits g_all_bits GB F_bits_of.kp b_bits_of g_bits_of m_list m_zip
  have GHd := ok_hd (P := l.prog) (w := w) (mg := mg) (base := base) (k := 0) F_is_had m_any
  have GFi := ok_fi (P := l.prog) (w := w) (mg := mg) (base := base) (k := 0) F_fitting GFa F_first_alikes.kp b_first_alikes g_first_alikes GHd F_is_had.kp b_is_had g_is_had m_range m_len
  have GRn := ok_ren (P := l.prog) (w := w) (mg := mg) (base := base) (k := 0) F_renumbered m_tuple
  have GDr := ok_drp (P := l.prog) (w := w) (mg := mg) (base := base) (k := 0) F_dropped GRn F_renumbered.kp b_renumbered g_renumbered m_range m_len m_tuple
  have GBk := ok_bck (P := l.prog) (w := w) (mg := mg) (base := base) (k := 0) F_brought_back GRn F_renumbered.kp b_renumbered g_renumbered GFa F_first_alikes.kp b_first_alikes g_first_alikes m_range m_len m_tuple m_list
  have GPb := ok_pb54 (P := l.prog) (w := w) (mg := mg) (base := base) (k := 0) F_put_by GDr F_dropped.kp b_dropped g_dropped GBk F_brought_back.kp b_brought_back g_brought_back
  have GUs := ok_us (P := l.prog) (w := w) (mg := mg) (base := base) (k := 0) F_law_used
  have GUt := ok_ut (P := l.prog) (w := w) (mg := mg) (base := base) (k := 0) F_law_up_to m_max
  have GOw := ok_ow (P := l.prog) (w := w) (mg := mg) (base := base) (k := 0) F_law_one_worth GUt F_law_up_to.kp b_law_up_to g_law_up_to GLf F_law_first.kp b_law_first g_law_first GAb F_law_bits.kp b_law_bits g_law_bits GLs F_law_step.kp b_law_step g_law_step m_len m_max
  have GFl := ok_fl (P := l.prog) (w := w) (mg := mg) (base := base) (k := 0) F_law_first_like GOw F_law_one_worth.kp b_law_one_worth g_law_one_worth m_range
  have GWo := ok_lwo (P := l.prog) (w := w) (mg := mg) (base := base) (k := 0) F_law_without m_enumerate m_tuple m_int
  have GWi := ok_lwi9 (P := l.prog) (w := w) (mg := mg) (base := base) (k := 0) F_law_with m_range m_len m_list m_tuple
  have GLx := ok_lfi (P := l.prog) (w := w) (mg := mg) (base := base) (k := 0) F_law_fitting GUs F_law_used.kp b_law_used g_law_used GFl F_law_first_like.kp b_law_first_like g_law_first_like m_range m_len
  have GLp := ok_lpu (P := l.prog) (w := w) (mg := mg) (base := base) (k := 0) F_law_put GWo F_law_without.kp b_law_without g_law_without GWi F_law_with.kp b_law_with g_law_with GFl F_law_first_like.kp b_law_first_like g_law_first_like
  have GWh := ok_whA (P := l.prog) (w := w) (mg := mg) (base := base) (k := 0) F_is_whole m_isinstance m_int m_bool
  have GIf := ok_ifA (P := l.prog) (w := w) (mg := mg) (base := base) (k := 0) F_is_fitting GWh F_is_whole.kp b_is_whole g_is_whole GFi F_fitting.kp b_fitting g_fitting
  have GTv := ok_tvA (P := l.prog) (w := w) (mg := mg) (base := base) (k := 0) F_is_the_very GWh F_is_whole.kp b_is_whole g_is_whole F_is_the_very.kp b_is_the_very g_is_the_very m_isinstance m_tuple m_str m_len m_zip m_all 4
  have GIs := ok_isA (P := l.prog) (w := w) (mg := mg) (base := base) (k := 0) F_is_step GIf F_is_fitting.kp b_is_fitting g_is_fitting GTv F_is_the_very.kp b_is_the_very g_is_the_very GPb F_put_by.kp b_put_by g_put_by m_isinstance m_tuple m_len
  have GIc := ok_icA (P := l.prog) (w := w) (mg := mg) (base := base) (k := 0) F_is_chain GIs F_is_step.kp b_is_step g_is_step m_isinstance m_list
  have GLr := ok_lr (P := l.prog) (w := w) (mg := mg) (base := base) (k := 0) F_law_right GLx F_law_fitting.kp b_law_fitting g_law_fitting GLp F_law_put.kp b_law_put g_law_put m_isinstance m_list m_tuple m_len m_int m_bool m_repr
  have GMa := ok_ma (P := l.prog) (w := w) (mg := mg) (base := base) (k := 0) F_law_made GLx F_law_fitting.kp b_law_fitting g_law_fitting GD F_law_digit.kp b_law_digit g_law_digit GLp F_law_put.kp b_law_put g_law_put m_len
  have GOr := ok_or (P := l.prog) (w := w) (mg := mg) (base := base) (k := 0) F_law_odd_row GD F_law_digit.kp b_law_digit g_law_digit m_len m_list m_tuple m_str m_int m_bool
  have GBs := ok_bs (P := l.prog) (w := w) (mg := mg) (base := base) (k := 0) F_law_bent_step GD F_law_digit.kp b_law_digit g_law_digit GOr F_law_odd_row.kp b_law_odd_row g_law_odd_row m_len m_list m_str m_int m_bool
  have GBe := ok_be (P := l.prog) (w := w) (mg := mg) (base := base) (k := 0) F_law_bent GD F_law_digit.kp b_law_digit g_law_digit GBs F_law_bent_step.kp b_law_bent_step g_law_bent_step m_len m_tuple
  exact law_run F_law b_law GT F_law_tape.kp b_law_tape g_law_tape GLg F_law_long_row.kp b_law_long_row g_law_long_row GMa F_law_made.kp b_law_made g_law_made GBe F_law_bent.kp b_law_bent g_law_bent GIc F_is_chain.kp b_is_chain g_is_chain GLr F_law_right.kp b_law_right g_law_right m_bool m_range m_len m_max m_min m_repr m_isinstance hlen hbits e0 hS
end
end KK
open PySem PySem.W PyProof.Rows
set_option maxHeartbeats 0 in
theorem PySem.Challenge.cw_anywide_k56_chains_looked_at_holds : PySem.Challenge.rw_anywide_k56_chains_looked_at.Holds := by
  w_on; o_law; k_head; (case hw => w_witness2)
  k_fill
  refine AW.walkG (l := PySem.Challenge.rw_anywide_k56_chains_looked_at) (n := 63) rfl (by decide) rfl (fun w h Y => PySem.W.kIn_of Y) ?F
  case F =>
    intro w mg fa h KX G hmg
    refine' KK.all_mk KX G hmg ?a0 ?l0 ?c0 ?k0 ?a1 ?l1 ?c1 ?k1 ?a2 ?l2 ?c2 ?k2 ?a3 ?l3 ?c3 ?k3 ?a4 ?l4 ?c4 ?k4 ?a5 ?l5 ?c5 ?k5 ?a6 ?l6 ?c6 ?k6 ?a7 ?l7 ?c7 ?k7 ?a8 ?l8 ?c8 ?k8 ?a9 ?l9 ?c9 ?k9 ?a10 ?l10 ?c10 ?k10 ?a11 ?l11 ?c11 ?k11 ?a12 ?l12 ?c12 ?k12 ?a13 ?l13 ?c13 ?k13 ?a14 ?l14 ?c14 ?k14 ?a15 ?l15 ?c15 ?k15 ?a16 ?l16 ?c16 ?k16 ?a17 ?l17 ?c17 ?k17 ?a18 ?l18 ?c18 ?k18 ?a19 ?l19 ?c19 ?k19 ?a20 ?l20 ?c20 ?k20 ?a21 ?l21 ?c21 ?k21 ?a22 ?l22 ?c22 ?k22 ?a23 ?l23 ?c23 ?k23 ?a24 ?l24 ?c24 ?k24 ?a25 ?l25 ?c25 ?k25 ?a26 ?l26 ?c26 ?k26 ?a27 ?l27 ?c27 ?k27 ?a28 ?l28 ?c28 ?k28 ?a29 ?l29 ?c29 ?k29 ?a30 ?l30 ?c30 ?k30 ?a31 ?l31 ?c31 ?k31 ?a32 ?l32 ?c32 ?k32 ?a33 ?l33 ?c33 ?k33 ?a34 ?l34 ?c34 ?k34 ?a35 ?l35 ?c35 ?k35 ?a36 ?l36 ?c36 ?k36 ?a37 ?l37 ?c37 ?k37 ?a38 ?l38 ?c38 ?k38 ?a39 ?l39 ?c39 ?k39 ?a40 ?l40 ?c40 ?k40 ?a41 ?l41 ?c41 ?k41 ?a42 ?l42 ?c42 ?k42 ?a43 ?l43 ?c43 ?k43 ?a44 ?l44 ?c44 ?k44 ?a45 ?l45 ?c45 ?k45 ?a46 ?l46 ?c46 ?k46 ?z_abs ?z_all ?z_any ?z_bool ?z_enumerate ?z_int ?z_isinstance ?z_len ?z_list ?z_max ?z_min ?z_range ?z_repr ?z_set ?z_sorted ?z_str ?z_tuple ?z_zip
    (case a0 => k_is)
    (case l0 => k_is)
    (case c0 => k_is)
    (case k0 => k_is)
    (case a1 => k_is)
    (case l1 => k_is)
    (case c1 => k_is)
    (case k1 => k_is)
    (case a2 => k_is)
    (case l2 => k_is)
    (case c2 => k_is)
    (case k2 => k_is)
    (case a3 => k_is)
    (case l3 => k_is)
    (case c3 => k_is)
    (case k3 => k_is)
    (case a4 => k_is)
    (case l4 => k_is)
    (case c4 => k_is)
    (case k4 => k_is)
    (case a5 => k_is)
    (case l5 => k_is)
    (case c5 => k_is)
    (case k5 => k_is)
    (case a6 => k_is)
    (case l6 => k_is)
    (case c6 => k_is)
    (case k6 => k_is)
    (case a7 => k_is)
    (case l7 => k_is)
    (case c7 => k_is)
    (case k7 => k_is)
    (case a8 => k_is)
    (case l8 => k_is)
    (case c8 => k_is)
    (case k8 => k_is)
    (case a9 => k_is)
    (case l9 => k_is)
    (case c9 => k_is)
    (case k9 => k_is)
    (case a10 => k_is)
    (case l10 => k_is)
    (case c10 => k_is)
    (case k10 => k_is)
    (case a11 => k_is)
    (case l11 => k_is)
    (case c11 => k_is)
    (case k11 => k_is)
    (case a12 => k_is)
    (case l12 => k_is)
    (case c12 => k_is)
    (case k12 => k_is)
    (case a13 => k_is)
    (case l13 => k_is)
    (case c13 => k_is)
    (case k13 => k_is)
    (case a14 => k_is)
    (case l14 => k_is)
    (case c14 => k_is)
    (case k14 => k_is)
    (case a15 => k_is)
    (case l15 => k_is)
    (case c15 => k_is)
    (case k15 => k_is)
    (case a16 => k_is)
    (case l16 => k_is)
    (case c16 => k_is)
    (case k16 => k_is)
    (case a17 => k_is)
    (case l17 => k_is)
    (case c17 => k_is)
    (case k17 => k_is)
    (case a18 => k_is)
    (case l18 => k_is)
    (case c18 => k_is)
    (case k18 => k_is)
    (case a19 => k_is)
    (case l19 => k_is)
    (case c19 => k_is)
    (case k19 => k_is)
    (case a20 => k_is)
    (case l20 => k_is)
    (case c20 => k_is)
    (case k20 => k_is)
    (case a21 => k_is)
    (case l21 => k_is)
    (case c21 => k_is)
    (case k21 => k_is)
    (case a22 => k_is)
    (case l22 => k_is)
    (case c22 => k_is)
    (case k22 => k_is)
    (case a23 => k_is)
    (case l23 => k_is)
    (case c23 => k_is)
    (case k23 => k_is)
    (case a24 => k_is)
    (case l24 => k_is)
    (case c24 => k_is)
    (case k24 => k_is)
    (case a25 => k_is)
    (case l25 => k_is)
    (case c25 => k_is)
    (case k25 => k_is)
    (case a26 => k_is)
    (case l26 => k_is)
    (case c26 => k_is)
    (case k26 => k_is)
    (case a27 => k_is)
    (case l27 => k_is)
    (case c27 => k_is)
    (case k27 => k_is)
    (case a28 => k_is)
    (case l28 => k_is)
    (case c28 => k_is)
    (case k28 => k_is)
    (case a29 => k_is)
    (case l29 => k_is)
    (case c29 => k_is)
    (case k29 => k_is)
    (case a30 => k_is)
    (case l30 => k_is)
    (case c30 => k_is)
    (case k30 => k_is)
    (case a31 => k_is)
    (case l31 => k_is)
    (case c31 => k_is)
    (case k31 => k_is)
    (case a32 => k_is)
    (case l32 => k_is)
    (case c32 => k_is)
    (case k32 => k_is)
    (case a33 => k_is)
    (case l33 => k_is)
    (case c33 => k_is)
    (case k33 => k_is)
    (case a34 => k_is)
    (case l34 => k_is)
    (case c34 => k_is)
    (case k34 => k_is)
    (case a35 => k_is)
    (case l35 => k_is)
    (case c35 => k_is)
    (case k35 => k_is)
    (case a36 => k_is)
    (case l36 => k_is)
    (case c36 => k_is)
    (case k36 => k_is)
    (case a37 => k_is)
    (case l37 => k_is)
    (case c37 => k_is)
    (case k37 => k_is)
    (case a38 => k_is)
    (case l38 => k_is)
    (case c38 => k_is)
    (case k38 => k_is)
    (case a39 => k_is)
    (case l39 => k_is)
    (case c39 => k_is)
    (case k39 => k_is)
    (case a40 => k_is)
    (case l40 => k_is)
    (case c40 => k_is)
    (case k40 => k_is)
    (case a41 => k_is)
    (case l41 => k_is)
    (case c41 => k_is)
    (case k41 => k_is)
    (case a42 => k_is)
    (case l42 => k_is)
    (case c42 => k_is)
    (case k42 => k_is)
    (case a43 => k_is)
    (case l43 => k_is)
    (case c43 => k_is)
    (case k43 => k_is)
    (case a44 => k_is)
    (case l44 => k_is)
    (case c44 => k_is)
    (case k44 => k_is)
    (case a45 => k_is)
    (case l45 => k_is)
    (case c45 => k_is)
    (case k45 => k_is)
    (case a46 => k_is)
    (case l46 => k_is)
    (case c46 => k_is)
    (case k46 => k_is)
    (case z_abs => k_is)
    (case z_all => k_is)
    (case z_any => k_is)
    (case z_bool => k_is)
    (case z_enumerate => k_is)
    (case z_int => k_is)
    (case z_isinstance => k_is)
    (case z_len => k_is)
    (case z_list => k_is)
    (case z_max => k_is)
    (case z_min => k_is)
    (case z_range => k_is)
    (case z_repr => k_is)
    (case z_set => k_is)
    (case z_sorted => k_is)
    (case z_str => k_is)
    (case z_tuple => k_is)
    (case z_zip => k_is)
