import PyProof.Rows.All
import Wide.All
import OpenK.AllK
import Wide.FinOn
import HandS.Base
import HandS.Call
import HandS.List
import HandS.Comp
import HandS.Ends
import HandS.Dict
import HandS.Iter
import HandS.EndBits
import HandS.Words
import HandS.WordsList
import HandS.WordsDict
import HandS.Text
import HandS.Wide
import HandS.WideBits
import HandS.Conv
import HandS.TupLe
import HandS.IsInst
import HandS.ExcIs
import HandS.ExcValue
import HandS.TupSets
import HandS.Zip
import HandS.Walk
import HandS.TupAny
import HandS.Deep
import PyProof.ReprRoads
import PyProof.ReprBulk
import KE.GoesZip
import KE.GoesMore
import KE.GoesEnum
import HandS.DictTup
import HandS.TupLen
import HandS.NoneIn
import HandS.Records
import HandS.Flow
import HandS.More
import KE.KDictWalk
import KE.KDictDisplayH
import PyProof.WalkInts
import PyProof.DictTable
import KE.KeyNested
import KE.KDictKeyed
import PyProof.DictMoreH
import HandS.ListItems
import KE.KTurns
import HandS.Star
import PyProof.StrOps2
import HandS.TryOnly
import HandS.WordsExc
import HandS.Style
import HandS.RaiseMore
import HandS.FStr
import HandS.ExcOwn
import HandS.ExcCtx
import HandS.SetFor
import PySem.Challenge.RW_anywide_k31_agreeing_choices_at_any_widt
set_option Elab.async false
set_option linter.all false
set_option maxRecDepth 100000
namespace AW
open PySem PySem.Spec PyProof.Rows L2

/-! ### a def's call at one around -/
theorem fn_at {P : Program} {w : World} {K : PySem.W.Frag} {mg : Str → Option Value} {base : Heap} {k : Nat} {f : Addr} {x qual : Str} {st : Stmt} {fd : FuncData} {N ps : List Str}
    (F : Fun K x qual st f fd) (S : FnScope N ps (defScope st)) {A : Around} {outer : List Env} {s : Shared} {H : Hp} {args : Args} {us : List Value} {vs : List V} {Q : VK} {E : XK}
    (hr : Room (k + 1) A) (e0 : Env0 P w K mg base A outer s H) (hb : BindsTo s fd args (ps.zip us)) (r : Vals vs us) (hl : vs.length = ps.length)
    (hbody : ∀ cdv : Value, ∃ t, PSs (cxOf CX0 P w K mg base N qual (defScope st) f cdv A outer s H E).nox (defBody st) t ∧ t { nx := fun _ H' => Q .non H', rt := Q } (start N vs) H) :
    codeAny (model P w) A (.call (.ref f) args) (CR CX0 outer P w H s Q E) s := by
  obtain ⟨oc, od, kV, doc, pm, an, cdv, ct, osl, rfl, lk, hcd⟩ := F.ex
  have keep0 : ∀ b o, base.get? b = some o → s.heap.get? b = some o := fun b o e => (e0.bs b o e).1
  have KX := e0.mod.kin.keeps keep0
  refine codeAny_call_function (Room.depth hr) (KX _ _ lk) rfl S.co S.gen rfl (PySem.W.codeRec_of KX hcd) (hb _ _ _ _ ?_)
  have kinds : ∀ y ∈ ps.zip us, (defScope st).names.lookup y.1 = some .local ∨ ((defScope st).names.lookup y.1 = some .cell ∧ ((cellsFrom (s.heap.objs.size + 1) (defScope st).names []).lookup y.1).isSome = true) := by
    intro y hy
    obtain ⟨n, v⟩ := y
    exact (S.par n (List.of_mem_zip hy).1).elim Or.inl fun q => Or.inr ⟨q, PySem.W.cellsFrom_some _ _ _ (.inl q)⟩
  refine wpAny_newFunctionEnv_cells S.kind kinds ?_
  rintro env rfl s1 ic
  obtain ⟨t, ht, hq⟩ := hbody cdv
  refine ⟨(e0.mod.nolimit.keeps keep0).keeps ic.toInCall.keep, codeAny_func (wpAny_mono (ht.nox.run [] s1 (start N vs) H _ (inv_start S hr.hd e0 hl r ic) hq) ?_ (fun _ _ z => z))⟩
  intro fl s' hs
  cases fl with
  | ret u =>
    obtain ⟨v, σ', H', J, rv, q⟩ := hs
    exact ⟨v, H', J.os, J.bare, J.base, J.hok, rv, q⟩
  | next =>
    obtain ⟨σ', H', J, q⟩ := hs
    exact ⟨V.non, H', J.os, J.bare, J.base, J.hok, rfl, q⟩
  | brk => exact hs.elim fun _ z => z.elim fun _ z => z.2.elim
  | cont => exact hs.elim fun _ z => z.elim fun _ z => z.2.elim

/-! ### the law's own call -/
theorem env_at {P : Program} {w : World} {K : PySem.W.Frag} {mg mb : Str → Option Value} {a : Addr} {s1 : Shared} {vs : List Value} {H : Hp}
    (KX : K.In s1.heap) (hns : s1.heap.Ns mainGlobals mg) (hb : s1.heap.Ns builtinsNs mb) (hbb : ∀ x : Str, x ≠ "__name__" → mb x = bootBuiltins x) (hlim : s1.heap.NoLimit) (hg : s1.gens = #[])
    (ha : s1.heap.get? a = some { cls := .type "list", data := .seq vs.toArray }) (one : ∀ b u, H b = some u → b = a) (out : ∀ o, K.lookup a = some o → H a = none) (ok : HOk P w H s1.heap) :
    Env0 P w K mg (hidT s1.heap H) callerA [] s1 H := by
  have dicts : ∀ {b : Addr} {m : Str → Option Value}, s1.heap.Ns b m → (hidT s1.heap H).Ns b m := by
    rintro b m ⟨o, es, ep, e, d, r⟩
    refine ⟨o, es, ep, hidT_get e ?_, d, r⟩
    match q : H b with
    | none => rfl
    | some u =>
      obtain rfl := one b u q
      have e2 := Option.some.inj (e.symm.trans ha)
      rw [e2] at d
      cases d
  have kin : K.In (hidT s1.heap H) := by
    intro b o e
    refine hidT_get (KX b o e) ?_
    match q : H b with
    | none => rfl
    | some u =>
      obtain rfl := one b u q
      exact q.symm.trans (out o e)
  obtain ⟨mc, l1, l2⟩ := hlim
  exact ⟨rfl, ⟨kin, dicts hns, ⟨mb, dicts hb, hbb⟩, ⟨mc, dicts l1, l2⟩⟩, fun b o e => of_hidT e, Nat.le_of_eq (hidT_size _ _), trivial, (fun b z => nomatch z), ok, .of_eq hg⟩

theorem law_end {P : Program} {w : World} {K : PySem.W.Frag} {mg mb : Str → Option Value} {fa a : Addr} {s1 : Shared} {vs : List Value} {ns : List Int}
    (KX : K.In s1.heap) (hns : s1.heap.Ns mainGlobals mg) (hb : s1.heap.Ns builtinsNs mb) (hbb : ∀ x : Str, x ≠ "__name__" → mb x = bootBuiltins x) (hlim : s1.heap.NoLimit) (hg : s1.gens = #[])
    (ha : s1.heap.get? a = some { cls := .type "list", data := .seq vs.toArray }) (hi : IntsAre vs ns) (hl : ns.length ≤ sizeLine)
    (run : ∀ (base : Heap) (H : Hp), Env0 P w K mg base callerA [] s1 H → SqL K H a (ns.map V.int) →
      codeAny (model P w) callerA (.call (.ref fa) ⟨[.ref a], []⟩) (CR CX0 [] P w H s1 (fun v _ => v = .bl true) E0) s1) :
    codeAny (model P w) callerA (.call (.ref fa) ⟨[.ref a], []⟩) (fun r s' => r = .ok (.ret (.bool true)) ∧ OldK s1.heap s'.heap ∧ s'.os = s1.os ∧ AllBare s'.gens) s1 := by
  have rv := vals_ints hi
  have fin : ∀ H : Hp, HOk P w H s1.heap → (∀ b u, H b = some u → ∃ o xs, u = .frz o (.lst xs)) → ∀ r s', CR CX0 [] P w H s1 (fun v _ => v = .bl true) E0 r s' →
      r = .ok (.ret (.bool true)) ∧ OldK s1.heap s'.heap ∧ s'.os = s1.os ∧ AllBare s'.gens := by
    intro H ok hf r s' h
    match r, h with
    | .ok (.ret u), ⟨v, H', os, bare, un, ok2, rel, q⟩ =>
      obtain rfl : v = .bl true := q
      obtain rfl : u = Value.bool true := rel
      refine ⟨rfl, OldK.of_keep ?_, os, bare⟩
      intro b o e
      match qb : H b with
      | none => exact un.keep b o e qb (fun z => nomatch z) (fun z => nomatch z)
      | some ho =>
        obtain ⟨o2, xs, rfl⟩ := hf b ho qb
        have k1 := (ok b _ qb).1
        have k2 := (ok2 b _ (un.frzs b o2 _ qb)).1
        rw [e] at k1
        cases k1
        exact k2
  match hk : K.lookup a with
  | some o =>
    have e := (KX a o hk).symm.trans ha
    obtain rfl := Option.some.inj e
    have ok : HOk P w (fun _ => none) s1.heap := fun b u z => nomatch z
    refine codeAny_mono (run _ (fun _ => none) (env_at KX hns hb hbb hlim hg ha (fun b u z => nomatch z) (fun _ _ => rfl) ok) ?_) (fin _ ok fun b u z => nomatch z)
    exact .inr ⟨_, vs.toArray, _, hk, rfl, rfl, rfl, by rw [List.size_toArray, hi.length]; exact hl, by simpa using rv⟩
  | none =>
    let o : Obj := { cls := .type "list", data := .seq vs.toArray }
    have at_ : ∀ b u, (if b = a then some (HO.frz o (.lst (ns.map V.int))) else none) = some u → b = a ∧ u = HO.frz o (.lst (ns.map V.int)) := by
      intro b u z
      by_cases hb : b = a
      · rw [if_pos hb] at z
        exact ⟨hb, (Option.some.inj z).symm⟩
      · rw [if_neg hb] at z
        cases z
    have ok : HOk P w (fun b => if b = a then some (HO.frz o (.lst (ns.map V.int))) else none) s1.heap := by
      intro b u z
      obtain ⟨rfl, rfl⟩ := at_ b u z
      exact ⟨ha, by rw [List.length_map]; exact hl, vs, _, rv, ha⟩
    refine codeAny_mono (run _ _ (env_at KX hns hb hbb hlim hg ha (fun b u z => (at_ b u z).1) (fun o' e => absurd (hk.symm.trans e) (fun z => nomatch z)) ok) ?_) (fin _ ok fun b u z => ⟨_, _, (at_ b u z).2⟩)
    exact .inl (.inr ⟨o, if_pos rfl⟩)

theorem walkG {l : PySem.W.OpenLaw} {n : Nat} {q : Program} {loose : List Str} {XP : (Str → Option Value) → Heap → Prop} {YP : World → Heap → Prop} {d : DefRec} {K : Params → PySem.W.Frag}
    (hn : l.most = some n) (hn2 : n ≤ sizeLine) (hdf : d.params.defaults = []) (hY : ∀ (w : World) (h : Heap), YP w h → (K w.params).In h)
    (F : ∀ (w : World) (mg : Str → Option Value) (fa : Addr) (h : Heap), (K w.params).In h → h.Ns mainGlobals mg → mg d.name = some (.ref fa) →
      ∀ (s : Shared) (a : Addr) (ns : List Int) (base : Heap) (H : Hp), ns.length ≤ n → (∀ z ∈ ns, Builtin.Int.intBits z ≤ 1048576) → Env0 l.prog w (K w.params) mg base callerA [] s H → SqL (K w.params) H a (ns.map V.int) →
        codeAny (model l.prog w) callerA (.call (.ref fa) ⟨[.ref a], []⟩) (CR CX0 [] l.prog w H s (fun v _ => v = .bl true) E0) s) :
    PySem.W.WalkO q loose XP YP l.row.toRowW d [] (fun f vs => PySem.call f vs) := by
  apply Att.attach_callB hn hdf
  intro w s0 s1 mg mb fa o pm cd doc a vs ns G Y ho hd hcd hmg hobj hints hlen hbits hg
  have KX := hY w _ Y
  exact law_end KX G.T.g G.T.b G.T.builtins G.T.nolimit hg hobj hints (Nat.le_trans hlen hn2) fun base H e0 hS => F w mg fa _ KX G.T.g hmg s1 a ns base H hlen hbits e0 hS

/-! ### repr of data -/
section
variable {X : Cx}
/-- what a value reads, whatever the state -/
def Rz (X : Cx) (H : Hp) (v : V) (d : PyData) : Prop := ∀ pins σ s u, Inv X pins σ H s → RelV v u → ∃ as, Reads s.heap u d as ∧ sysModules ∉ as
def rRepr (X : Cx) : List V → Hp → VK → Prop := fun xs H Q => ∃ (x : V) (d : PyData), xs = [x] ∧ (Rz X H x d ∨ (Dp X.K H x d ∧ d.hasDict = false)) ∧ d.showable = true ∧ d.depth ≤ 40 ∧ d.shown.length ≤ sizeLine ∧ Q (.str d.shown) H
theorem call_repr (hg : X.A.guards = some []) (hu : X.A.units + 64 < cLine) : CallR X (.builtin "repr") (rRepr X) := by
  intro pins s σ H xs us Q I r h
  obtain ⟨x, d, rfl, hd, hs, hp, hz, q⟩ := h
  match us, r with
  | [u], .cons rx .nil =>
    have rd : ∃ as, Reads s.heap u d as ∧ (d.hasDict = true → sysModules ∉ as) := by
      rcases hd with hd | ⟨hd, hn⟩
      · obtain ⟨as, h1, h2⟩ := hd pins σ s u I rx
        exact ⟨as, h1, fun _ => h2⟩
      · obtain ⟨as, h1⟩ := Dp.reads I d x u hd rx
        exact ⟨as, h1, fun z => by rw [hn] at z; cases z⟩
    obtain ⟨as, h1, h2⟩ := rd
    cases h1 with
    | none => exact PySem.P.repr_of_none ⟨.str _, H, I.tok _, ⟨_, rfl⟩, q⟩
    | bool b => exact PySem.P.repr_of_bool ⟨.str _, H, I.tok _, ⟨_, rfl⟩, by have q' := q; simp only [PyData.shown] at q'; cases b <;> exact q'⟩
    | int i t => exact PySem.P.repr_of_int (by simpa [PyData.showable] using hs) ⟨.str _, H, I.tok _, ⟨_, rfl⟩, by simpa only [PyData.shown] using q⟩
    | str x t => exact PySem.P.repr_of_str ⟨.str _, H, I.tok _, ⟨_, rfl⟩, by simpa only [PyData.shown] using q⟩ (by simpa only [PyData.shown] using hz)
    | list a b c e => exact repr_of_reads' (Reads.list a b c e) hs h2 hg (by omega) (fun _ _ e => e) (fun h' u tk k => ⟨.str _, H, I.kept k, ⟨_, rfl⟩, q⟩) hz
    | tuple a b c e => exact repr_of_reads' (Reads.tuple a b c e) hs h2 hg (by omega) (fun _ _ e => e) (fun h' u tk k => ⟨.str _, H, I.kept k, ⟨_, rfl⟩, q⟩) hz
    | dict a b c e f => exact repr_of_reads' (Reads.dict a b c e f) hs h2 hg (by omega) (fun _ _ e => e) (fun h' u tk k => ⟨.str _, H, I.kept k, ⟨_, rfl⟩, q⟩) hz

theorem Rz.int (H : Hp) (i : Int) : Rz X H (.int i) (.int i) := by
  rintro pins σ s u I ⟨t, rfl⟩
  exact ⟨_, Reads.int i t, (fun z => nomatch z)⟩
theorem Rz.str (H : Hp) (x : Str) : Rz X H (.str x) (.str x) := by
  rintro pins σ s u I ⟨t, rfl⟩
  exact ⟨_, Reads.str x t, (fun z => nomatch z)⟩
theorem rz_all {H : Hp} : ∀ {vs : List V} {ds : List PyData}, Paired (Rz X H) vs ds → ∀ {pins σ s us}, Inv X pins σ H s → Vals vs us → ∃ as, ReadsAll s.heap us ds as ∧ sysModules ∉ as
  | _, _, .nil, _, _, _, _, _, .nil => ⟨_, ReadsAll.nil, (fun z => nomatch z)⟩
  | _, _, .cons h t, _, _, _, _, I, .cons r rs => by
    obtain ⟨as, a1, a2⟩ := h _ _ _ _ I r
    obtain ⟨bs, b1, b2⟩ := rz_all t I rs
    exact ⟨_, ReadsAll.cons a1 b1, fun z => (List.mem_append.mp z).elim a2 b2⟩
theorem Rz.tup {H : Hp} {a : Addr} {xs : List V} {ds : List PyData} (h : SqT X.K H a xs) (hs : Paired (Rz X H) xs ds) : Rz X H (.ref a) (.tuple ds) := by
  intro pins σ s u I r
  obtain rfl : u = Value.ref a := r
  obtain ⟨its, rv, ⟨o, ho, hc, n, hd⟩, _⟩ := I.tuple h
  obtain ⟨as, h1, h2⟩ := rz_all hs I rv
  exact ⟨_, Reads.tuple ho hc hd h1, h2⟩
end
end AW
namespace AW
open PySem PySem.Spec PyProof.Rows L2
section
variable {X : Cx}
def CPowW (i j : Int) : Prop := 0 ≤ j ∧ (Builtin.Int.intBits i : Int) * j ≤ 2 ^ 27
theorem op_powW : OpR X (binaryOp .Pow) (rI CPowW fun i j => .int (i ^ j.toNat)) := opI fun _ _ _ _ _ _ _ hc q => pow_int hc.1 hc.2 q
end
theorem bits_lt {z : Int} {n : Nat} (h : Builtin.Int.intBits z ≤ n) : z.natAbs < 2 ^ n := by
  unfold Builtin.Int.intBits at h
  by_cases e : z = 0
  · subst e
    exact Nat.pos_of_ne_zero (by simp)
  · rw [if_neg (by simpa using e)] at h
    have : z.natAbs ≠ 0 := by omega
    exact (Nat.log2_lt this).mp (by omega)
theorem seed_ok {z c : Int} (h0 : 0 ≤ z) (h1 : z ≤ 2147483629) (h2 : Builtin.Int.intBits c ≤ 1048576) : CPowW (z * 50021 + c) 3 := by
  refine ⟨by decide, ?_⟩
  have hc := bits_lt h2
  have h3 : (z * 50021 + c).natAbs < 2 ^ 1048577 := by
    have a : (z * 50021 + c).natAbs ≤ (z * 50021).natAbs + c.natAbs := Int.natAbs_add_le _ _
    have b : (z * 50021).natAbs ≤ 2 ^ 48 := by omega
    have d : (2 : Nat) ^ 48 ≤ 2 ^ 1048576 := Nat.pow_le_pow_right (by decide) (by decide)
    have e : (2 : Nat) ^ 1048577 = 2 ^ 1048576 + 2 ^ 1048576 := by rw [Nat.pow_succ]; omega
    omega
  have h4 := PyProof.Rows.intBits_le h3
  have e : (2 : Int) ^ 27 = 134217728 := by decide
  rw [e]
  omega
/-! ### what follows an if, shown once -/
def tMid (t u : TS) : TS := fun D σ H => ∃ M : L2.St → Hp → Prop, t { D with nx := M } σ H ∧ ∀ σ2 H2, M σ2 H2 → u D σ2 H2
theorem pss_mid {X : Cx} {st : Stmt} {r : List Stmt} {t u : TS} (a : PS X st t) (b : PSs X r u) : PSs X (st :: r) (tMid t u) := by
  constructor
  rintro pins s σ H D I ⟨M, h1, h2⟩
  apply wpAny_execs_cons
  refine thn (a.run pins s σ H _ I h1) ?_
  intro fl s2 z
  match fl, z with
  | .next, ⟨σ2, H2, I2, m⟩ => exact b.run pins s2 σ2 H2 D I2 (h2 σ2 H2 m)
  | .ret _, z => exact z
  | .brk, z => exact z
  | .cont, z => exact z
/-! ### the well -/
def WL (H : Hp) (a c : Addr) : Prop := a ≠ c ∧ ∃ (cs : List Int) (r s : Int), H a = some (.lst [.ref c, .int r, .int s]) ∧ H c = some (.lst (cs.map V.int))
/-- all but the well stands as it stood -/
def Kp (a c : Addr) (H H' : Hp) : Prop := ∀ b o, b ≠ a → b ≠ c → H b = some o → H' b = some o
theorem Kp.refl (a c : Addr) (H : Hp) : Kp a c H H := fun _ _ _ _ h => h
theorem Kp.trans {a c : Addr} {H H1 H2 : Hp} (h : Kp a c H H1) (k : Kp a c H1 H2) : Kp a c H H2 := fun b o n1 n2 e => k b o n1 n2 (h b o n1 n2 e)
theorem Kp.tup {a c : Addr} {H H' : Hp} (w : WL H a c) (k : Kp a c H H') {b : Addr} {xs : List V} (h : H b = some (.tup xs)) : H' b = some (.tup xs) := by
  obtain ⟨_, cs, r, s, e1, e2⟩ := w
  exact k b _ (ne_of h e1 (fun z => nomatch z)) (ne_of h e2 (fun z => nomatch z)) h
theorem Kp.same {a c : Addr} {H H1 H2 : Hp} (ha : H a = none) (hc : H c = none) (s : Same H H1) (k : Kp a c H1 H2) : Same H H2 := fun b o e => k b o (ne_of_none e ha) (ne_of_none e hc) (s b o e)
theorem same_new {H : Hp} {p : Addr} {o : HO} (h : H p = none) : Same H (upd H p o) := fun b x e => by
  rw [upd_ne (ne_of_none e h)]
  exact e
theorem WL.same {H H' : Hp} {a c : Addr} (w : WL H a c) (k : Same H H') : WL H' a c := by
  obtain ⟨n, cs, r, s, e1, e2⟩ := w
  exact ⟨n, cs, r, s, k _ _ e1, k _ _ e2⟩
theorem WL.ne_new {H : Hp} {a c p : Addr} (w : WL H a c) (h : H p = none) : p ≠ a ∧ p ≠ c := by
  obtain ⟨n, cs, r, s, e1, e2⟩ := w
  exact ⟨(ne_of_none e1 h).symm, (ne_of_none e2 h).symm⟩
theorem WL.upd {H : Hp} {a c p : Addr} {o : HO} (w : WL H a c) (h1 : p ≠ a) (h2 : p ≠ c) : WL (upd H p o) a c := by
  obtain ⟨n, cs, r, s, e1, e2⟩ := w
  exact ⟨n, cs, r, s, by rw [upd_ne h1.symm]; exact e1, by rw [upd_ne h2.symm]; exact e2⟩
theorem Same.kp {a c : Addr} {H H' : Hp} (s : Same H H') : Kp a c H H' := fun b o _ _ e => s b o e
theorem dp_ints {K : PySem.W.Frag} {H : Hp} : ∀ cs : List Int, DpAll K H (cs.map V.int) (cs.map PyData.int)
  | [] => .nil
  | c :: cs => .cons (.int c) (dp_ints cs)
theorem lay_ints : ∀ cs : List Int, PyData.canLayAll0 (cs.map PyData.int) = true ∧ PyData.depthAll (cs.map PyData.int) = 0
  | [] => ⟨by simp only [List.map_nil, PyData.canLayAll0], by simp only [List.map_nil, PyData.depthAll]⟩
  | c :: cs => by
    obtain ⟨h1, h2⟩ := lay_ints cs
    exact ⟨by simp only [List.map_cons, PyData.canLayAll0, PyData.canLay0, h1, Bool.and_self], by simp only [List.map_cons, PyData.depthAll, PyData.depth, h2, Nat.max_self]⟩
theorem shaped_ints (cs : List Int) : SeqAt.shaped (.list (cs.map PyData.int)) = true := by
  obtain ⟨h1, h2⟩ := lay_ints cs
  simp only [SeqAt.shaped, PyData.canLay0, PyData.depth, h1, h2, Bool.true_and]
  decide
theorem dp_strs {K : PySem.W.Frag} {H : Hp} : ∀ cs : List Str, DpAll K H (cs.map V.str) (cs.map PyData.str)
  | [] => .nil
  | c :: cs => .cons (.str c) (dp_strs cs)
theorem lay_strs : ∀ cs : List Str, (∀ x ∈ cs, PyData.strOk x = true) → PyData.canLayAll0 (cs.map PyData.str) = true ∧ PyData.depthAll (cs.map PyData.str) = 0
  | [], _ => ⟨by simp only [List.map_nil, PyData.canLayAll0], by simp only [List.map_nil, PyData.depthAll]⟩
  | c :: cs, h => by
    obtain ⟨h1, h2⟩ := lay_strs cs fun x hx => h x (List.mem_cons_of_mem _ hx)
    exact ⟨by simp only [List.map_cons, PyData.canLayAll0, PyData.canLay0, h1, h c List.mem_cons_self, Bool.and_self], by simp only [List.map_cons, PyData.depthAll, PyData.depth, h2, Nat.max_self]⟩
theorem shaped_strs (cs : List Str) (h : ∀ x ∈ cs, PyData.strOk x = true) : SeqAt.shaped (.list (cs.map PyData.str)) = true := by
  obtain ⟨h1, h2⟩ := lay_strs cs h
  simp only [SeqAt.shaped, PyData.canLay0, PyData.depth, h1, h2, Bool.true_and]
  decide
theorem seq0 (n : Nat) : seqIndex? 0 (n + 1) = some 0 := by
  unfold seqIndex?
  simp
/-! ### the words of deeds, deeds, rows -/
def fwL : List (Str × Int) := [("none", 0), ("one", 0), ("all", 0), ("not", 1), ("neg", 1), ("twice", 1), ("and", 2), ("or", 2), ("xor", 2), ("add", 2), ("sub", 2)]
theorem fw_ok : ∀ x ∈ fwL.map (·.1), PyData.strOk x = true := by decide +kernel
def fwK : List (Key × V) := fwL.map fun p => (Sum.inr p.1, .int p.2)
/-- a deed: its word and its numbers -/
abbrev Deed := Str × List Int
def dV (d : Deed) : List V := .str d.1 :: d.2.map V.int
theorem dv0 (d : Deed) : atI (dV d) 0 = some (.str d.1) := atI_nat (j := 0) rfl
theorem dvN {d : Deed} {k : Nat} {i : Int} (h : d.2[k]? = some i) : atI (dV d) ((k + 1 : Nat) : Int) = some (.int i) := atI_nat (by show (d.2.map V.int)[k]? = _; rw [List.getElem?_map, h]; rfl)
structure DeedOk (m : Int) (d : Deed) : Prop where
  word : (d.1, (d.2.length : Int)) ∈ fwL
  ahead : ∀ i ∈ d.2, 0 ≤ i ∧ i < m
theorem fw_at {z : Int} (h0 : 0 ≤ z) (h1 : z < 11) : ∃ x n, (x, n) ∈ fwL ∧ 0 ≤ n ∧ n ≤ 2 ∧ atI (fwK.map fun kv => kV kv.1) z = some (.str x) ∧ valV fwK (Sum.inr x) = some (.int n) := by
  obtain ⟨k, rfl⟩ := Int.eq_ofNat_of_zero_le h0
  have hk : k = 0 ∨ k = 1 ∨ k = 2 ∨ k = 3 ∨ k = 4 ∨ k = 5 ∨ k = 6 ∨ k = 7 ∨ k = 8 ∨ k = 9 ∨ k = 10 := by omega
  rcases hk with rfl | rfl | rfl | rfl | rfl | rfl | rfl | rfl | rfl | rfl | rfl
  · exact ⟨"none", 0, by decide +kernel, by decide, by decide, by decide +kernel, by decide +kernel⟩
  · exact ⟨"one", 0, by decide +kernel, by decide, by decide, by decide +kernel, by decide +kernel⟩
  · exact ⟨"all", 0, by decide +kernel, by decide, by decide, by decide +kernel, by decide +kernel⟩
  · exact ⟨"not", 1, by decide +kernel, by decide, by decide, by decide +kernel, by decide +kernel⟩
  · exact ⟨"neg", 1, by decide +kernel, by decide, by decide, by decide +kernel, by decide +kernel⟩
  · exact ⟨"twice", 1, by decide +kernel, by decide, by decide, by decide +kernel, by decide +kernel⟩
  · exact ⟨"and", 2, by decide +kernel, by decide, by decide, by decide +kernel, by decide +kernel⟩
  · exact ⟨"or", 2, by decide +kernel, by decide, by decide, by decide +kernel, by decide +kernel⟩
  · exact ⟨"xor", 2, by decide +kernel, by decide, by decide, by decide +kernel, by decide +kernel⟩
  · exact ⟨"add", 2, by decide +kernel, by decide, by decide, by decide +kernel, by decide +kernel⟩
  · exact ⟨"sub", 2, by decide +kernel, by decide, by decide, by decide +kernel, by decide +kernel⟩
theorem awSnoc {α β : Type} {F : α → β → Prop} {x : α} {y : β} (h : F x y) : ∀ {l : List α} {l2 : List β}, Paired F l l2 → Paired F (l ++ [x]) (l2 ++ [y])
  | _, _, .nil => .cons h .nil
  | _, _, .cons r t => .cons r (awSnoc h t)
theorem awMap {α β : Type} {F G : α → β → Prop} (f : ∀ a b, F a b → G a b) : ∀ {l : List α} {l2 : List β}, Paired F l l2 → Paired G l l2
  | _, _, .nil => .nil
  | _, _, .cons r t => .cons (f _ _ r) (awMap f t)
theorem awLen {α β : Type} {F : α → β → Prop} : ∀ {l : List α} {l2 : List β}, Paired F l l2 → l.length = l2.length
  | _, _, .nil => rfl
  | _, _, .cons _ t => congrArg (· + 1) (awLen t)
theorem awGet {α β : Type} {F : α → β → Prop} : ∀ {l : List α} {l2 : List β} {i : Nat} {x : α}, Paired F l l2 → l[i]? = some x → ∃ y, l2[i]? = some y ∧ F x y
  | _, _, _, _, .nil, e => by simp at e
  | _, _, 0, _, .cons r _, e => by
    simp only [List.getElem?_cons_zero, Option.some.injEq] at e
    subst e
    exact ⟨_, rfl, r⟩
  | _, _, i + 1, x, .cons _ t, e => by
    simp only [List.getElem?_cons_succ] at e ⊢
    exact awGet t e
theorem awGet2 {α β : Type} {F : α → β → Prop} {l : List α} {l2 : List β} {i : Nat} {y : β} (h : Paired F l l2) (e : l2[i]? = some y) : ∃ x, l[i]? = some x ∧ F x y := by
  have hi : i < l.length := by
    rw [awLen h]
    exact (List.getElem?_eq_some_iff.mp e).1
  obtain ⟨y2, e2, f⟩ := awGet h (List.getElem?_eq_getElem hi)
  rw [e] at e2
  obtain rfl := Option.some.inj e2
  exact ⟨_, List.getElem?_eq_getElem hi, f⟩
/-- deeds that stand in the heap as tuples -/
abbrev DsAt (H : Hp) : List Addr → List Deed → Prop := Paired fun r d => H r = some (.tup (dV d))
def RowAt (H : Hp) (R : Addr) (m : Int) (ds : List Deed) (o : Int) : Prop := ∃ D rs, H R = some (.tup [.int m, .ref D, .int o]) ∧ H D = some (.tup (rs.map V.ref)) ∧ DsAt H rs ds
structure DsOk (m : Int) (ds : List Deed) : Prop where
  each : ∀ (k : Nat) d, ds[k]? = some d → DeedOk (m + k) d
structure RowOk (m : Int) (ds : List Deed) (o : Int) : Prop where
  m1 : 1 ≤ m
  m3 : m ≤ 3
  len : ds.length ≤ 8
  deeds : DsOk m ds
  o0 : 0 ≤ o
  o1 : o < m + ds.length
/-- all tuples stand -/
def TupsStay (H H' : Hp) : Prop := ∀ b xs, H b = some (.tup xs) → H' b = some (.tup xs)
theorem Same.tups {H H' : Hp} (s : Same H H') : TupsStay H H' := fun b xs e => s b _ e
theorem Kp.tups {a c : Addr} {H H' : Hp} (k : Kp a c H H') (w : WL H a c) : TupsStay H H' := fun b xs e => k.tup w e
theorem TupsStay.trans {H H1 H2 : Hp} (a : TupsStay H H1) (b : TupsStay H1 H2) : TupsStay H H2 := fun c xs e => b c xs (a c xs e)
theorem tups_put {H : Hp} {l : Addr} {xs : List V} {o : HO} (h : H l = some (.lst xs)) : TupsStay H (upd H l o) := fun b ys e => by
  rw [upd_ne (ne_of e h (fun z => nomatch z))]
  exact e
theorem TupsStay.ds {H H' : Hp} (t : TupsStay H H') {rs : List Addr} {ds : List Deed} (h : DsAt H rs ds) : DsAt H' rs ds := awMap (fun r d e => t r _ e) h
theorem TupsStay.row {H H' : Hp} (t : TupsStay H H') {R : Addr} {m o : Int} {ds : List Deed} (h : RowAt H R m ds o) : RowAt H' R m ds o := by
  obtain ⟨D, rs, e1, e2, e3⟩ := h
  exact ⟨D, rs, t _ _ e1, t _ _ e2, t.ds e3⟩
theorem dsOk_snoc {m : Int} {ds : List Deed} {d : Deed} (h : DsOk m ds) (k : DeedOk (m + ds.length) d) : DsOk m (ds ++ [d]) := by
  constructor
  intro i d' e
  by_cases hi : i < ds.length
  · rw [List.getElem?_append_left hi] at e
    exact h.each i d' e
  · rw [List.getElem?_append_right (by omega)] at e
    obtain ⟨h1, h2⟩ := List.getElem?_eq_some_iff.mp e
    have h3 : i = ds.length := by simp only [List.length_cons, List.length_nil] at h1; omega
    subst h3
    simp at h2
    subst h2
    exact k
/-! ### data that is shown in few signs -/
structure Nice (b k : Nat) (d : PyData) : Prop where
  sh : d.showable = true
  lv : d.leavesShort 21 = true
  bk : d.bulk ≤ b
  dp : d.depth ≤ k
theorem Nice.fits {b k : Nat} {d : PyData} (h : Nice b k d) (hb : b ≤ 100000) : d.shown.length ≤ sizeLine := by
  have h1 := PyData.shown_le_bulk 21 (by decide) d h.lv
  have h2 := h.bk
  rw [sizeLine_eq]
  omega
theorem Nice.mono {b b2 k k2 : Nat} {d : PyData} (h : Nice b k d) (hb : b ≤ b2) (hk : k ≤ k2) : Nice b2 k2 d := ⟨h.sh, h.lv, Nat.le_trans h.bk hb, Nat.le_trans h.dp hk⟩
theorem nice_int {i : Int} (h : i.natAbs < 10 ^ 20) : Nice 0 0 (.int i) := by
  refine ⟨?_, ?_, ?_, ?_⟩
  · simp only [PyData.showable, decide_eq_true_eq]
    have : i.natAbs < 2 ^ 70 := Nat.lt_trans h (by decide)
    by_cases e : i.natAbs = 0
    · rw [e]; decide
    · have := (Nat.log2_lt e).mpr this
      omega
  · simp only [PyData.leavesShort, decide_eq_true_eq]
    have e := int_text_length_le10 (k := 20) (by decide) h
    simp only [PyData.shown]
    rw [PySem.ofString_length]
    exact e
  · simp only [PyData.bulk, Nat.le_refl]
  · simp only [PyData.depth, Nat.le_refl]
theorem nice_str {x : Str} {n : Nat} (h : x.cps.size ≤ n) (hx : (x.cps.toList.all fun c => decide (c < 16 ^ 8)) = true) : Nice n 0 (.str x) := by
  refine ⟨?_, ?_, ?_, ?_⟩
  · simp only [PyData.showable]
  · simp only [PyData.leavesShort]
    exact hx
  · simp only [PyData.bulk]
    exact h
  · simp only [PyData.depth, Nat.le_refl]
theorem nice_all {b k : Nat} : ∀ {xs : List PyData}, (∀ x ∈ xs, Nice b k x) → PyData.showableAll xs = true ∧ PyData.leavesShortAll 21 xs = true ∧ PyData.bulkAll xs ≤ xs.length * (b + 1) ∧ PyData.depthAll xs ≤ k
  | [], _ => ⟨by simp only [PyData.showableAll], by simp only [PyData.leavesShortAll], by simp only [PyData.bulkAll, Nat.zero_le], by simp only [PyData.depthAll, Nat.zero_le]⟩
  | x :: xs, h => by
    obtain ⟨h1, h2, h3, h4⟩ := nice_all fun y hy => h y (List.mem_cons_of_mem _ hy)
    obtain ⟨g1, g2, g3, g4⟩ := h x List.mem_cons_self
    refine ⟨by simp only [PyData.showableAll, g1, h1, Bool.and_self], by simp only [PyData.leavesShortAll, g2, h2, Bool.and_self], ?_, ?_⟩
    · simp only [PyData.bulkAll, List.length_cons, Nat.add_mul, Nat.one_mul]
      omega
    · simp only [PyData.depthAll]
      omega
theorem nice_tup {b k n : Nat} {xs : List PyData} (h : ∀ x ∈ xs, Nice b k x) (hn : xs.length * (b + 1) ≤ n) : Nice n (k + 1) (.tuple xs) := by
  obtain ⟨h1, h2, h3, h4⟩ := nice_all h
  exact ⟨by simpa only [PyData.showable] using h1, by simpa only [PyData.leavesShort] using h2, by simp only [PyData.bulk]; omega, by simp only [PyData.depth]; omega⟩
theorem nice_lst {b k n : Nat} {xs : List PyData} (h : ∀ x ∈ xs, Nice b k x) (hn : xs.length * (b + 1) ≤ n) : Nice n (k + 1) (.list xs) := by
  obtain ⟨h1, h2, h3, h4⟩ := nice_all h
  exact ⟨by simpa only [PyData.showable] using h1, by simpa only [PyData.leavesShort] using h2, by simp only [PyData.bulk]; omega, by simp only [PyData.depth]; omega⟩
def deedD (d : Deed) : PyData := .tuple (.str d.1 :: d.2.map PyData.int)
def rowD (m : Int) (ds : List Deed) (o : Int) : PyData := .tuple [.int m, .tuple (ds.map deedD), .int o]
theorem fw_short : ∀ p ∈ fwL, p.1.cps.size ≤ 5 ∧ (p.1.cps.toList.all fun c => decide (c < 16 ^ 8)) = true ∧ p.2 ≤ 2 := by decide +kernel
theorem nice_deed {m : Int} {d : Deed} (h : DeedOk m d) (hm : m ≤ 100) : Nice 18 1 (deedD d) := by
  obtain ⟨h1, h2, h3⟩ := fw_short _ h.word
  refine nice_tup (b := 5) (k := 0) (fun x hx => ?_) ?_
  · rcases List.mem_cons.mp hx with rfl | hx
    · exact nice_str h1 h2
    · obtain ⟨i, hi, rfl⟩ := List.mem_map.mp hx
      obtain ⟨i0, i1⟩ := h.ahead i hi
      exact (nice_int (by omega)).mono (by decide) (by decide)
  · rw [List.length_cons, List.length_map]
    have : (d.2.length : Int) ≤ 2 := h3
    omega
theorem nice_row {m o : Int} {ds : List Deed} (h : RowOk m ds o) : Nice 459 3 (rowD m ds o) := by
  have hm := h.m1
  have hm3 := h.m3
  have hl := h.len
  have ho := h.o0
  have ho1 := h.o1
  refine nice_tup (b := 152) (k := 2) (fun x hx => ?_) (by simp only [List.length_cons, List.length_nil]; decide)
  simp only [List.mem_cons, List.not_mem_nil, or_false] at hx
  rcases hx with rfl | rfl | rfl
  · exact (nice_int (by omega)).mono (by decide) (by decide)
  · refine nice_tup (b := 18) (k := 1) (fun x hx => ?_) ?_
    · obtain ⟨d, hd, rfl⟩ := List.mem_map.mp hx
      obtain ⟨k, hk⟩ := List.mem_iff_getElem?.mp hd
      have hk1 := (List.getElem?_eq_some_iff.mp hk).1
      exact nice_deed (h.deeds.each k d hk) (by omega)
    · rw [List.length_map]
      omega
  · exact (nice_int (by omega)).mono (by decide) (by decide)
/-! ### what the row reads -/
section
variable {X : Cx}
theorem rz_ints (H : Hp) : ∀ l : List Int, Paired (Rz X H) (l.map V.int) (l.map PyData.int)
  | [] => .nil
  | i :: l => .cons (Rz.int H i) (rz_ints H l)
theorem rz_deed {H : Hp} {r : Addr} {d : Deed} (h : H r = some (.tup (dV d))) : Rz X H (.ref r) (deedD d) := Rz.tup (SqT.of h) (.cons (Rz.str H _) (rz_ints H _))
theorem rz_deeds {H : Hp} : ∀ {rs : List Addr} {ds : List Deed}, DsAt H rs ds → Paired (Rz X H) (rs.map V.ref) (ds.map deedD)
  | _, _, .nil => .nil
  | _, _, .cons h t => .cons (rz_deed h) (rz_deeds t)
theorem rz_row {H : Hp} {R : Addr} {m o : Int} {ds : List Deed} (h : RowAt H R m ds o) : Rz X H (.ref R) (rowD m ds o) := by
  obtain ⟨D, rs, e1, e2, e3⟩ := h
  exact Rz.tup (SqT.of e1) (.cons (Rz.int H m) (.cons (Rz.tup (SqT.of e2) (rz_deeds e3)) (.cons (Rz.int H o) .nil)))
/-- a dict of texts and ints -/
abbrev siK (es : List (Str × Int)) : List (Key × V) := es.map fun p => (Sum.inr p.1, .int p.2)
theorem si_reads {prog : Program} {w : World} {h : Heap} : ∀ (es : List (Str × Int)) (vs : List (Key × Value)) (en : List DictEntry), KV (siK es) vs → Pairs (mixKind prog w) en vs →
    ReadsAll h (en.map (·.key)) ((es.map fun p => (PyData.str p.1, PyData.int p.2)).map (·.1)) [] ∧ ReadsAll h (en.map (·.val)) ((es.map fun p => (PyData.str p.1, PyData.int p.2)).map (·.2)) []
  | [], _, _, .nil, .nil => ⟨.nil, .nil⟩
  | (x, i) :: es, _, _, .cons hh t, .cons hk hv hp => by
    obtain ⟨h1, h2⟩ := si_reads es _ _ t hp
    obtain ⟨k1, t1, e1⟩ := hh
    rw [← k1] at hk
    obtain ⟨t2, e2⟩ := Value.isStrOf_shape (x := x) hk
    refine ⟨?_, ?_⟩
    · simp only [List.map_cons]
      rw [e2]
      exact ReadsAll.cons (as := []) (Reads.str x t2) h1
    · simp only [List.map_cons]
      rw [hv, e1]
      exact ReadsAll.cons (as := []) (Reads.int i t1) h2
theorem rz_dict {H : Hp} {C : Addr} {es : List (Str × Int)} (h : H C = some (.dK (siK es))) : Rz X H (.ref C) (.dict (es.map fun p => (PyData.str p.1, PyData.int p.2))) := by
  intro pins σ s u I r
  obtain rfl : u = Value.ref C := r
  obtain ⟨_, hs, vs, hkv, o, en, ep, e1, e2, e3, e4, e5, e6⟩ := I.hok C _ h
  obtain ⟨r1, r2⟩ := si_reads (prog := X.prog) (w := X.w) (h := s.heap) es vs _ hkv e5
  refine ⟨_, Reads.dict e1 e2.1 e3 r1 r2, ?_⟩
  intro z
  simp only [List.append_nil, List.mem_cons, List.not_mem_nil, or_false] at z
  rw [← z] at hs
  simp at hs
end
theorem nice_dict {n : Nat} : ∀ {es : List (Str × Int)}, (∀ p ∈ es, p.1.cps.size ≤ 5 ∧ (p.1.cps.toList.all fun c => decide (c < 16 ^ 8)) = true ∧ p.2.natAbs < 10 ^ 20) → es.length * 7 ≤ n →
    Nice n 1 (.dict (es.map fun p => (PyData.str p.1, PyData.int p.2))) := by
  intro es h hn
  have key : ∀ es : List (Str × Int), (∀ p ∈ es, p.1.cps.size ≤ 5 ∧ (p.1.cps.toList.all fun c => decide (c < 16 ^ 8)) = true ∧ p.2.natAbs < 10 ^ 20) →
      PyData.showableKv (es.map fun p => (PyData.str p.1, PyData.int p.2)) = true ∧ PyData.leavesShortKv 21 (es.map fun p => (PyData.str p.1, PyData.int p.2)) = true ∧ PyData.bulkKv (es.map fun p => (PyData.str p.1, PyData.int p.2)) ≤ es.length * 7 ∧ PyData.depthKv (es.map fun p => (PyData.str p.1, PyData.int p.2)) = 0 := by
    intro es
    induction es with
    | nil => intro _; exact ⟨by simp only [List.map_nil, PyData.showableKv], by simp only [List.map_nil, PyData.leavesShortKv], by simp only [List.map_nil, PyData.bulkKv, Nat.zero_le], by simp only [List.map_nil, PyData.depthKv]⟩
    | cons p es ih =>
      intro h
      obtain ⟨h1, h2, h3, h4⟩ := ih fun q hq => h q (List.mem_cons_of_mem _ hq)
      obtain ⟨a, b, c⟩ := h p List.mem_cons_self
      obtain ⟨i1, i2, i3, i4⟩ := nice_int c
      obtain ⟨s1, s2, s3, s4⟩ := nice_str a b
      refine ⟨by simp only [List.map_cons, PyData.showableKv, i1, s1, h1, Bool.and_self], by simp only [List.map_cons, PyData.leavesShortKv, i2, s2, h2, Bool.and_self], ?_, ?_⟩
      · simp only [List.map_cons, PyData.bulkKv, List.length_cons]
        omega
      · simp only [List.map_cons, PyData.depthKv]
        omega
  obtain ⟨h1, h2, h3, h4⟩ := key es h
  exact ⟨by simpa only [PyData.showable] using h1, by simpa only [PyData.leavesShort] using h2, by simp only [PyData.bulk]; omega, by simp only [PyData.depth]; omega⟩
/-! ### values of rows -/
theorem strEq {x y : Str} (h : decide (V.str x = V.str y) = true) : x = y := V.str.inj (of_decide_eq_true h)
theorem strNe {x y : Str} (h : ¬ decide (V.str x = V.str y) = true) : ¬ x = y := fun e => h (decide_eq_true (congrArg V.str e))
def argAt (d : Deed) (told : List Int) (k : Nat) : Int := told.getD (d.2.getD k 0).toNat 0
def dvalue (x : Str) (A B size : Int) : Int :=
  if x = "none" then 0 else if x = "one" then 1 else if x = "all" then size - 1 else if x = "not" then size - 1 - A else if x = "neg" then -A else if x = "twice" then A + A
  else if x = "and" then Builtin.bitAnd A B else if x = "or" then Builtin.bitOr A B else if x = "xor" then Builtin.bitXor A B else if x = "add" then A + B else A - B
def dval (size : Int) (d : Deed) (told : List Int) : Int := dvalue d.1 (argAt d told 0) (argAt d told 1) size % size
def vals (size : Int) : List Deed → List Int → List Int
  | [], told => told
  | d :: ds, told => vals size ds (told ++ [dval size d told])
theorem vals_append (size : Int) : ∀ (l1 l2 : List Deed) (t : List Int), vals size (l1 ++ l2) t = vals size l2 (vals size l1 t)
  | [], _, _ => rfl
  | d :: l1, l2, t => vals_append size l1 l2 (t ++ [dval size d t])
theorem vals_len {size : Int} : ∀ (ds : List Deed) (t : List Int), (vals size ds t).length = t.length + ds.length
  | [], _ => rfl
  | d :: ds, t => by
    show (vals size ds (t ++ [dval size d t])).length = _
    rw [vals_len ds, List.length_append, List.length_cons, List.length_cons, List.length_nil]
    omega
theorem vals_next {size : Int} {ds : List Deed} {i : Nat} {d : Deed} {t : List Int} (h : ds[i]? = some d) : vals size (ds.take (i + 1)) t = vals size (ds.take i) t ++ [dval size d (vals size (ds.take i) t)] := by
  rw [List.take_add_one, h, vals_append]
  rfl
theorem atI_ints {l : List Int} {o : Int} (h0 : 0 ≤ o) (h1 : o < l.length) : atI (l.map V.int) o = some (.int (l.getD o.toNat 0)) := by
  obtain ⟨k, rfl⟩ := Int.eq_ofNat_of_zero_le h0
  have hk : k < l.length := by omega
  apply atI_nat
  rw [List.getElem?_map, List.getElem?_eq_getElem hk, Int.toNat_natCast, List.getD_eq_getElem?_getD, List.getElem?_eq_getElem hk]
  rfl
theorem fw_one : ∀ p ∈ fwL, ¬ p.1 = "none" → ¬ p.1 = "one" → ¬ p.1 = "all" → 1 ≤ p.2 := by decide +kernel
theorem fw_two' : ∀ p ∈ fwL, (decide (p.1 ∈ (["none", "one", "all", "not", "neg", "twice"] : List Str)) || decide (2 ≤ p.2)) = true := by decide +kernel
theorem fw_two (p : Str × Int) (h : p ∈ fwL) (n1 : ¬ p.1 = "none") (n2 : ¬ p.1 = "one") (n3 : ¬ p.1 = "all") (n4 : ¬ p.1 = "not") (n5 : ¬ p.1 = "neg") (n6 : ¬ p.1 = "twice") : 2 ≤ p.2 := by
  have e := fw_two' p h
  rw [Bool.or_eq_true] at e
  rcases e with e | e
  · have e2 := of_decide_eq_true e
    simp only [List.mem_cons, List.not_mem_nil, or_false] at e2
    rcases e2 with e2 | e2 | e2 | e2 | e2 | e2
    · exact absurd e2 n1
    · exact absurd e2 n2
    · exact absurd e2 n3
    · exact absurd e2 n4
    · exact absurd e2 n5
    · exact absurd e2 n6
  · exact of_decide_eq_true e
theorem arg_of {d : Deed} {told : List Int} (h : DeedOk told.length d) {k : Nat} (hk : k < d.2.length) : ∃ i, d.2[k]? = some i ∧ 0 ≤ i ∧ atI (told.map V.int) i = some (.int (argAt d told k)) := by
  have hg := List.getElem?_eq_getElem hk
  obtain ⟨i0, i1⟩ := h.ahead _ (List.getElem_mem hk)
  refine ⟨d.2[k], hg, i0, ?_⟩
  rw [atI_ints i0 i1]
  unfold argAt
  rw [List.getD_eq_getElem?_getD (l := d.2), hg]
  rfl
theorem arg1 {d : Deed} {told : List Int} (h : DeedOk told.length d) (n1 : ¬ d.1 = "none") (n2 : ¬ d.1 = "one") (n3 : ¬ d.1 = "all") : ∃ i, d.2[0]? = some i ∧ 0 ≤ i ∧ atI (told.map V.int) i = some (.int (argAt d told 0)) :=
  arg_of h (by have := fw_one _ h.word n1 n2 n3; show 0 < d.2.length; have e : (1 : Int) ≤ (d.2.length : Int) := this; omega)
theorem arg2 {d : Deed} {told : List Int} (h : DeedOk told.length d) (n1 : ¬ d.1 = "none") (n2 : ¬ d.1 = "one") (n3 : ¬ d.1 = "all") (n4 : ¬ d.1 = "not") (n5 : ¬ d.1 = "neg") (n6 : ¬ d.1 = "twice") :
    ∃ i, d.2[1]? = some i ∧ 0 ≤ i ∧ atI (told.map V.int) i = some (.int (argAt d told 1)) :=
  arg_of h (by have := fw_two _ h.word n1 n2 n3 n4 n5 n6; show 1 < d.2.length; have e : (2 : Int) ≤ (d.2.length : Int) := this; omega)
/-! ### the low bits of values -/
theorem pw_cast (n : Nat) : (2 : Int) ^ n = ((2 ^ n : Nat) : Int) := (PySem.W.kbt_cast n).symm
theorem pw_le {n k : Nat} (h : n ≤ k) : (2 : Int) ^ n ≤ 2 ^ k := by
  rw [pw_cast, pw_cast]
  exact Int.ofNat_le.mpr (Nat.pow_le_pow_right (by decide) h)
theorem pw_pos (n : Nat) : (0 : Int) < 2 ^ n := Int.pow_pos (by decide)
theorem castMod (a n : Nat) : ((a : Int) % 2 ^ n) = ((a % 2 ^ n : Nat) : Int) := by rw [pw_cast, Int.natCast_emod]
theorem low_and {A B : Int} (n : Nat) (ha : 0 ≤ A) (hb : 0 ≤ B) : Builtin.bitAnd (A % 2 ^ n) (B % 2 ^ n) % 2 ^ n = Builtin.bitAnd A B % 2 ^ n := by
  obtain ⟨a, rfl⟩ := Int.eq_ofNat_of_zero_le ha
  obtain ⟨b, rfl⟩ := Int.eq_ofNat_of_zero_le hb
  rw [castMod, castMod, bitAnd_pp (Int.natCast_nonneg _) (Int.natCast_nonneg _), bitAnd_pp (Int.natCast_nonneg _) (Int.natCast_nonneg _), castMod, castMod]
  simp only [Int.toNat_natCast]
  rw [Nat.and_mod_two_pow, Nat.and_mod_two_pow, Nat.mod_mod, Nat.mod_mod]
theorem low_or {A B : Int} (n : Nat) (ha : 0 ≤ A) (hb : 0 ≤ B) : Builtin.bitOr (A % 2 ^ n) (B % 2 ^ n) % 2 ^ n = Builtin.bitOr A B % 2 ^ n := by
  obtain ⟨a, rfl⟩ := Int.eq_ofNat_of_zero_le ha
  obtain ⟨b, rfl⟩ := Int.eq_ofNat_of_zero_le hb
  rw [castMod, castMod, bitOr_nn (Int.natCast_nonneg _) (Int.natCast_nonneg _), bitOr_nn (Int.natCast_nonneg _) (Int.natCast_nonneg _), castMod, castMod]
  simp only [Int.toNat_natCast]
  rw [Nat.or_mod_two_pow, Nat.or_mod_two_pow, Nat.mod_mod, Nat.mod_mod]
theorem low_xor {A B : Int} (n : Nat) (ha : 0 ≤ A) (hb : 0 ≤ B) : Builtin.bitXor (A % 2 ^ n) (B % 2 ^ n) % 2 ^ n = Builtin.bitXor A B % 2 ^ n := by
  obtain ⟨a, rfl⟩ := Int.eq_ofNat_of_zero_le ha
  obtain ⟨b, rfl⟩ := Int.eq_ofNat_of_zero_le hb
  rw [castMod, castMod, Bits.bitXor_pp (Int.natCast_nonneg _) (Int.natCast_nonneg _), Bits.bitXor_pp (Int.natCast_nonneg _) (Int.natCast_nonneg _), castMod, castMod]
  simp only [Int.toNat_natCast]
  rw [Nat.xor_mod_two_pow, Nat.xor_mod_two_pow, Nat.mod_mod, Nat.mod_mod]
theorem pw_dvd {n k : Nat} (h : n ≤ k) : (2 : Int) ^ n ∣ 2 ^ k := ⟨2 ^ (k - n), by rw [← Int.pow_add]; congr 1; omega⟩
theorem emod_same {a b m : Int} (k : Int) (h : a - b = m * k) : a % m = b % m := Int.emod_eq_emod_iff_emod_sub_eq_zero.mpr (by rw [h]; exact Int.mul_emod_right m k)
theorem dvalue_low' {x : Str} {N c qa qb ra rb A B : Int} (ea : N * qa + ra = A) (eb : N * qb + rb = B) (l1 : Builtin.bitAnd ra rb % N = Builtin.bitAnd A B % N) (l2 : Builtin.bitOr ra rb % N = Builtin.bitOr A B % N)
    (l3 : Builtin.bitXor ra rb % N = Builtin.bitXor A B % N) : dvalue x ra rb N % N = dvalue x A B (N * c) % N := by
  unfold dvalue
  by_cases h1 : x = "none"
  · rw [if_pos h1, if_pos h1]
  rw [if_neg h1, if_neg h1]
  by_cases h2 : x = "one"
  · rw [if_pos h2, if_pos h2]
  rw [if_neg h2, if_neg h2]
  by_cases h3 : x = "all"
  · rw [if_pos h3, if_pos h3]
    exact emod_same (1 - c) (by rw [Int.mul_sub, Int.mul_one]; omega)
  rw [if_neg h3, if_neg h3]
  by_cases h4 : x = "not"
  · rw [if_pos h4, if_pos h4]
    exact emod_same (1 - c + qa) (by rw [Int.mul_add, Int.mul_sub, Int.mul_one]; omega)
  rw [if_neg h4, if_neg h4]
  by_cases h5 : x = "neg"
  · rw [if_pos h5, if_pos h5]
    exact emod_same qa (by omega)
  rw [if_neg h5, if_neg h5]
  by_cases h6 : x = "twice"
  · rw [if_pos h6, if_pos h6]
    exact emod_same (-qa - qa) (by rw [Int.mul_sub, Int.mul_neg]; omega)
  rw [if_neg h6, if_neg h6]
  by_cases h7 : x = "and"
  · rw [if_pos h7, if_pos h7]
    exact l1
  rw [if_neg h7, if_neg h7]
  by_cases h8 : x = "or"
  · rw [if_pos h8, if_pos h8]
    exact l2
  rw [if_neg h8, if_neg h8]
  by_cases h9 : x = "xor"
  · rw [if_pos h9, if_pos h9]
    exact l3
  rw [if_neg h9, if_neg h9]
  by_cases h10 : x = "add"
  · rw [if_pos h10, if_pos h10]
    exact emod_same (-qa - qb) (by rw [Int.mul_sub, Int.mul_neg]; omega)
  rw [if_neg h10, if_neg h10]
  exact emod_same (qb - qa) (by rw [Int.mul_sub]; omega)
theorem dvalue_low {x : Str} {A B : Int} {n k : Nat} (hA : 0 ≤ A) (hB : 0 ≤ B) (h : n ≤ k) : dvalue x (A % 2 ^ n) (B % 2 ^ n) (2 ^ n) % 2 ^ n = dvalue x A B (2 ^ k) % 2 ^ n := by
  obtain ⟨c, hc⟩ := pw_dvd h
  rw [hc]
  exact dvalue_low' (Int.mul_ediv_add_emod A (2 ^ n)) (Int.mul_ediv_add_emod B (2 ^ n)) (low_and n hA hB) (low_or n hA hB) (low_xor n hA hB)
theorem getD_low (N : Int) (l : List Int) (i : Nat) : (l.map (· % N)).getD i 0 = l.getD i 0 % N := by
  rw [List.getD_eq_getElem?_getD, List.getD_eq_getElem?_getD, List.getElem?_map]
  cases l[i]? with
  | none => exact (Int.zero_emod N).symm
  | some y => rfl
theorem arg_nn {told : List Int} (h : ∀ x ∈ told, 0 ≤ x) (d : Deed) (j : Nat) : 0 ≤ argAt d told j := by
  unfold argAt
  rw [List.getD_eq_getElem?_getD]
  cases e : told[(d.2.getD j 0).toNat]? with
  | none => exact Int.le_refl 0
  | some y => exact h y (List.mem_of_getElem? e)
theorem dval_low {d : Deed} {told : List Int} {n k : Nat} (h : ∀ x ∈ told, 0 ≤ x) (hk : n ≤ k) : dval (2 ^ n) d (told.map (· % 2 ^ n)) = dval (2 ^ k) d told % 2 ^ n := by
  unfold dval
  have e : ∀ j, argAt d (told.map (· % 2 ^ n)) j = argAt d told j % 2 ^ n := fun j => getD_low _ _ _
  rw [e, e, dvalue_low (arg_nn h d 0) (arg_nn h d 1) hk, Int.emod_emod_of_dvd _ (pw_dvd hk)]
theorem vals_low {n k : Nat} (hk : n ≤ k) : ∀ (ds : List Deed) (told : List Int), (∀ x ∈ told, 0 ≤ x) → vals (2 ^ n) ds (told.map (· % 2 ^ n)) = (vals (2 ^ k) ds told).map (· % 2 ^ n)
  | [], _, _ => rfl
  | d :: ds, told, h => by
    show vals (2 ^ n) ds (told.map (· % 2 ^ n) ++ [dval (2 ^ n) d (told.map (· % 2 ^ n))]) = (vals (2 ^ k) ds (told ++ [dval (2 ^ k) d told])).map (· % 2 ^ n)
    rw [dval_low h hk, ← vals_low hk ds, List.map_append]
    · rfl
    · intro x hx
      rcases List.mem_append.mp hx with hx | hx
      · exact h x hx
      · rw [List.mem_singleton.mp hx]
        exact Int.emod_nonneg _ (by have := pw_pos k; omega)
theorem vals_range {size : Int} (hs : 0 < size) : ∀ (ds : List Deed) (told : List Int), (∀ x ∈ told, 0 ≤ x ∧ x < size) → ∀ x ∈ vals size ds told, 0 ≤ x ∧ x < size
  | [], _, h => h
  | d :: ds, told, h => by
    refine vals_range hs ds (told ++ [dval size d told]) fun x hx => ?_
    rcases List.mem_append.mp hx with hx | hx
    · exact h x hx
    · rw [List.mem_singleton.mp hx]
      exact ⟨Int.emod_nonneg _ (by omega), Int.emod_lt_of_pos _ hs⟩
/-! ### lists of ints compared -/
theorem eqv_ints : ∀ l : List Int, PyData.eqv (.list (l.map PyData.int)) (.list (l.map PyData.int)) = true := fun l => SeqAt.eqv_refl _ (SeqAt.canLay_of_shaped (shaped_ints l))
theorem dget_at {H : Hp} {a : Addr} {kvs : List (Key × V)} {k : Key} {v : V} (e : H a = some (.dK kvs)) (h : valV kvs k = some v) : DGet H a (kV k) (some v) := h ▸ DGet.k e
theorem fw_cases {x : Str} {n : Nat} (h : (x, (n : Int)) ∈ fwL) : (n = 0 ∧ (x = "none" ∨ x = "one" ∨ x = "all")) ∨ (n = 1 ∧ (x = "not" ∨ x = "neg" ∨ x = "twice")) ∨ (n = 2 ∧ (x = "and" ∨ x = "or" ∨ x = "xor" ∨ x = "add" ∨ x = "sub")) := by
  unfold fwL at h
  simp only [List.mem_cons, List.not_mem_nil, or_false, Prod.mk.injEq] at h
  rcases h with h | h | h | h | h | h | h | h | h | h | h
  · exact .inl ⟨by omega, .inl h.1⟩
  · exact .inl ⟨by omega, .inr (.inl h.1)⟩
  · exact .inl ⟨by omega, .inr (.inr h.1)⟩
  · exact .inr (.inl ⟨by omega, .inl h.1⟩)
  · exact .inr (.inl ⟨by omega, .inr (.inl h.1)⟩)
  · exact .inr (.inl ⟨by omega, .inr (.inr h.1)⟩)
  · exact .inr (.inr ⟨by omega, .inl h.1⟩)
  · exact .inr (.inr ⟨by omega, .inr (.inl h.1)⟩)
  · exact .inr (.inr ⟨by omega, .inr (.inr (.inl h.1))⟩)
  · exact .inr (.inr ⟨by omega, .inr (.inr (.inr (.inl h.1)))⟩)
  · exact .inr (.inr ⟨by omega, .inr (.inr (.inr (.inr h.1)))⟩)
theorem and_lt {A B : Int} {n : Nat} (a0 : 0 ≤ A) (a1 : A < 2 ^ n) (b0 : 0 ≤ B) : Builtin.bitAnd A B % 2 ^ n = Builtin.bitAnd A B := by
  obtain ⟨a, rfl⟩ := Int.eq_ofNat_of_zero_le a0
  obtain ⟨b, rfl⟩ := Int.eq_ofNat_of_zero_le b0
  rw [bitAnd_pp (Int.natCast_nonneg _) (Int.natCast_nonneg _), castMod]
  rw [pw_cast] at a1
  simp only [Int.toNat_natCast]
  rw [Nat.mod_eq_of_lt (Nat.lt_of_le_of_lt Nat.and_le_left (by omega))]
theorem or_lt {A B : Int} {n : Nat} (a0 : 0 ≤ A) (a1 : A < 2 ^ n) (b0 : 0 ≤ B) (b1 : B < 2 ^ n) : Builtin.bitOr A B % 2 ^ n = Builtin.bitOr A B := by
  obtain ⟨a, rfl⟩ := Int.eq_ofNat_of_zero_le a0
  obtain ⟨b, rfl⟩ := Int.eq_ofNat_of_zero_le b0
  rw [bitOr_nn (Int.natCast_nonneg _) (Int.natCast_nonneg _), castMod]
  rw [pw_cast] at a1 b1
  simp only [Int.toNat_natCast]
  rw [Nat.mod_eq_of_lt (Nat.or_lt_two_pow (by omega) (by omega))]
theorem xor_lt {A B : Int} {n : Nat} (a0 : 0 ≤ A) (a1 : A < 2 ^ n) (b0 : 0 ≤ B) (b1 : B < 2 ^ n) : Builtin.bitXor A B % 2 ^ n = Builtin.bitXor A B := by
  obtain ⟨a, rfl⟩ := Int.eq_ofNat_of_zero_le a0
  obtain ⟨b, rfl⟩ := Int.eq_ofNat_of_zero_le b0
  rw [Bits.bitXor_pp (Int.natCast_nonneg _) (Int.natCast_nonneg _), castMod]
  rw [pw_cast] at a1 b1
  simp only [Int.toNat_natCast]
  rw [Nat.mod_eq_of_lt (Nat.xor_lt_two_pow (by omega) (by omega))]
/-! ### all but the first -/
theorem sIx_one (x : V) (xs : List V) : HT.sIx (x :: xs).length 0 (some 1) = 1 := by
  have e : HT.sIx (x :: xs).length 0 (some 1) = min 1 (x :: xs).length := HT.sIx_nat (x :: xs).length 0 1
  rw [e, List.length_cons]
  omega
theorem cutTail (x : V) (xs : List V) : cutV (x :: xs) (some 1) none = xs := by
  have h2 : HT.sIx (x :: xs).length (x :: xs).length none = (x :: xs).length := HT.sIx_none _ _
  unfold cutV
  rw [sIx_one, h2]
  simp
theorem notWhole (x : V) (xs : List V) : ¬ (HT.sIx (x :: xs).length 0 (some 1) = 0 ∧ HT.sIx (x :: xs).length (x :: xs).length none = (x :: xs).length) := by
  rw [sIx_one]
  exact fun h => absurd h.1 (by decide)
theorem intEq {x y : Int} (h : decide (V.int x = V.int y) = true) : x = y := V.int.inj (of_decide_eq_true h)
theorem intNe {x y : Int} (h : ¬ decide (V.int x = V.int y) = true) : ¬ x = y := fun e => h (decide_eq_true (congrArg V.int e))
/-! ### t + u of two tuples at hand, whatever they hold -/
section
variable {X : Cx}
def rCatZ : R2 := fun x y H Q => ∃ a b xs ys, x = .ref a ∧ y = .ref b ∧ H a = some (.tup xs) ∧ H b = some (.tup ys) ∧ xs.length + ys.length ≤ sizeLine ∧ ∀ p H2, Same H H2 → H2 p = some (.tup (xs ++ ys)) → Q (.ref p) H2
theorem op_catZ : OpR X (binaryOp .Add) rCatZ := by
  intro pins s σ H x y v u Q I rx ry h
  obtain ⟨a, b, xs, ys, rfl, rfl, ha, hb, hz, q⟩ := h
  refine op_catA pins s σ H _ _ v u Q I rx ry ⟨a, b, xs, ys, rfl, rfl, SqT.of ha, SqT.of hb, hz, fun e => ?_, fun _ e => ?_, fun _ _ p hp => ?_⟩
  · subst e
    exact q b H (Same.refl H) hb
  · subst e
    exact q a H (Same.refl H) (by rw [List.append_nil]; exact ha)
  · exact q p _ (same_new hp) upd_same
end
theorem awAppend {α β : Type} {F : α → β → Prop} : ∀ {l k : List α} {l2 k2 : List β}, Paired F l l2 → Paired F k k2 → Paired F (l ++ k) (l2 ++ k2)
  | _, _, _, _, .nil, h => h
  | _, _, _, _, .cons r t, h => .cons r (awAppend t h)
theorem dsOk_append {m t : Int} {ds es : List Deed} (h : DsOk m ds) (k : DsOk t es) (e : t = m + ds.length) : DsOk m (ds ++ es) := by
  constructor
  intro i d hi
  by_cases hl : i < ds.length
  · rw [List.getElem?_append_left hl] at hi
    exact h.each i d hi
  · rw [List.getElem?_append_right (by omega)] at hi
    have := k.each _ d hi
    rw [e] at this
    have e2 : m + (ds.length : Int) + ((i - ds.length : Nat) : Int) = m + i := by omega
    rw [e2] at this
    exact this
/-- all but one stands as it stood -/
def But (f : Addr) (H H2 : Hp) : Prop := ∀ b o, b ≠ f → H b = some o → H2 b = some o
theorem But.trans {f : Addr} {H H1 H2 : Hp} (a : But f H H1) (b : But f H1 H2) : But f H H2 := fun c o n e => b c o n (a c o n e)
theorem But.same {f : Addr} {H H2 : Hp} (s : Same H H2) : But f H H2 := fun b o _ e => s b o e
theorem But.put {f : Addr} {H : Hp} {o : HO} : But f H (upd H f o) := fun b u n e => by
  rw [upd_ne n]
  exact e
theorem But.tups {f : Addr} {H H2 : Hp} {xs : List V} (h : But f H H2) (e : H f = some (.lst xs)) : TupsStay H H2 := fun b ys z => h b _ (ne_of z e (fun q => nomatch q)) z
/-! ### the tape -/
def TP (H : Hp) (a : Addr) : Prop := ∃ x y : Int, H a = some (.lst [.int x, .int y])
theorem TP.same {H H2 : Hp} {a : Addr} (h : TP H a) (s : Same H H2) : TP H2 a := by
  obtain ⟨x, y, e⟩ := h
  exact ⟨x, y, s _ _ e⟩
theorem TP.ne_new {H : Hp} {a p : Addr} (h : TP H a) (e : H p = none) : p ≠ a := by
  obtain ⟨x, y, e1⟩ := h
  exact (ne_of_none e1 e).symm
theorem TP.upd {H : Hp} {a p : Addr} {o : HO} (h : TP H a) (n : p ≠ a) : TP (upd H p o) a := by
  obtain ⟨x, y, e1⟩ := h
  exact ⟨x, y, by rw [upd_ne n.symm]; exact e1⟩
theorem But.tape {a : Addr} {H H2 : Hp} (h : But a H H2) (t : TP H a) : TupsStay H H2 := by
  obtain ⟨x, y, e⟩ := t
  exact h.tups e
theorem But.refl (a : Addr) (H : Hp) : But a H H := fun _ _ _ e => e
theorem atI_in {α : Type} {l : List α} {i : Int} (h0 : 0 ≤ i) (h1 : i < l.length) : ∃ v, atI l i = some v ∧ v ∈ l := by
  obtain ⟨k, rfl⟩ := Int.eq_ofNat_of_zero_le h0
  have hk : k < l.length := by omega
  exact ⟨l[k], atI_nat (List.getElem?_eq_getElem hk), List.getElem_mem hk⟩
/-! ### texts in written tuples -/
theorem inS (x : Str) : ∀ l : List Str, inV (.str x) (l.map V.str) = decide (x ∈ l)
  | [] => rfl
  | y :: l => by
    have ih := inS x l
    show (eqV (.str y) (.str x) || inV (.str x) (l.map V.str)) = _
    rw [ih]
    by_cases h : x = y
    · subst h
      simp [eqV]
    · have h2 : ¬ y = x := fun e => h e.symm
      simp [eqV, h, h2]
def tw12 : List Str := ["add", "sub", "and", "xor", "or", "not", "twice", "neg", "all", "one", "none", "add"]
def twC : List Str := ["add", "sub", "twice", "neg", "one"]
theorem tw_zero : ∀ x ∈ (["all", "one", "none"] : List Str), (x, (0 : Int)) ∈ fwL := by decide +kernel
theorem tw_one : ∀ x ∈ (["not", "twice", "neg"] : List Str), (x, (1 : Int)) ∈ fwL := by decide +kernel
theorem tw_two : ∀ x ∈ tw12, x ∈ (["all", "one", "none"] : List Str) ∨ x ∈ (["not", "twice", "neg"] : List Str) ∨ (x, (2 : Int)) ∈ fwL := by decide +kernel
theorem tw_four : ∀ x ∈ (["and", "or", "xor", "not"] : List Str), x ∈ tw12 := by decide +kernel
theorem mem_strs {v : V} {l : List Str} (h : v ∈ l.map V.str) : ∃ x, x ∈ l ∧ v = .str x := by
  obtain ⟨x, hx, e⟩ := List.mem_map.mp h
  exact ⟨x, hx, e.symm⟩
/-! ### bits and carries of rows -/
def fcD (d : Deed) : Int := if d.1 ∈ (["neg", "one"] : List Str) then 1 else 0
def dbit (x : Str) (a b c : Int) : Int :=
  if x = "none" then 0 else if x = "all" then 1 else if x = "one" then c else if x = "twice" then c else if x = "not" then 1 - a else if x = "neg" then Builtin.bitXor (1 - a) c
  else if x = "and" then Builtin.bitAnd a b else if x = "or" then Builtin.bitOr a b else if x = "xor" then Builtin.bitXor a b else Builtin.bitXor (Builtin.bitXor a b) c
def dcar (x : Str) (a b c : Int) : Int :=
  if x = "neg" then Builtin.bitAnd (1 - a) c else if x = "twice" then a else if x = "add" then (a + b + c) / 2 else if x = "sub" then (1 - a + b + c) / 2 else 0
def dbitAt (d : Deed) (c : Int) (told : List Int) : Int := dbit d.1 (argAt d told 0) (argAt d told 1) c
def dcarAt (d : Deed) (c : Int) (told : List Int) : Int := dcar d.1 (argAt d told 0) (argAt d told 1) c
def bts : List Deed → List Int → List Int → List Int
  | d :: ds, c :: cs, told => bts ds cs (told ++ [dbitAt d c told])
  | _, _, told => told
def nxt (ds : List Deed) (cs told : List Int) : List Int := List.zipWith (fun d c => dcarAt d c told) ds cs
abbrev Bit (x : Int) : Prop := x = 0 ∨ x = 1
theorem bit0 : Bit 0 := .inl rfl
theorem bit1 : Bit 1 := .inr rfl
theorem dbit_bit {x : Str} {a b c : Int} (ha : Bit a) (hb : Bit b) (hc : Bit c) : Bit (dbit x a b c) := by
  have n1 : Bit (1 - a) := by rcases ha with rfl | rfl <;> simp [Bit]
  have hx : ∀ {p q : Int}, Bit p → Bit q → Bit (Builtin.bitXor p q) := fun hp hq => by
    rcases hp with rfl | rfl <;> rcases hq with rfl | rfl <;> decide
  have hand : ∀ {p q : Int}, Bit p → Bit q → Bit (Builtin.bitAnd p q) := fun hp hq => by
    rcases hp with rfl | rfl <;> rcases hq with rfl | rfl <;> decide
  have hor : ∀ {p q : Int}, Bit p → Bit q → Bit (Builtin.bitOr p q) := fun hp hq => by
    rcases hp with rfl | rfl <;> rcases hq with rfl | rfl <;> decide
  unfold dbit
  split; · exact bit0
  split; · exact bit1
  split; · exact hc
  split; · exact hc
  split; · exact n1
  split; · exact hx n1 hc
  split; · exact hand ha hb
  split; · exact hor ha hb
  split; · exact hx ha hb
  exact hx (hx ha hb) hc
theorem dcar_bit {x : Str} {a b c : Int} (ha : Bit a) (hb : Bit b) (hc : Bit c) : Bit (dcar x a b c) := by
  unfold dcar
  split
  · rcases ha with rfl | rfl <;> rcases hc with rfl | rfl <;> decide
  split; · exact ha
  split
  · rcases ha with rfl | rfl <;> rcases hb with rfl | rfl <;> rcases hc with rfl | rfl <;> decide
  split
  · rcases ha with rfl | rfl <;> rcases hb with rfl | rfl <;> rcases hc with rfl | rfl <;> decide
  exact bit0
theorem argAt_bit {told : List Int} (h : ∀ x ∈ told, Bit x) (d : Deed) (j : Nat) : Bit (argAt d told j) := by
  unfold argAt
  rw [List.getD_eq_getElem?_getD]
  cases e : told[(d.2.getD j 0).toNat]? with
  | none => exact bit0
  | some y => exact h y (List.mem_of_getElem? e)
theorem bts_next : ∀ {ds : List Deed} {cs t : List Int} {i : Nat} {d : Deed} {c : Int}, ds[i]? = some d → cs[i]? = some c → bts (ds.take (i + 1)) (cs.take (i + 1)) t = bts (ds.take i) (cs.take i) t ++ [dbitAt d c (bts (ds.take i) (cs.take i) t)]
  | [], _, _, _, _, _, h, _ => by simp at h
  | _ :: _, [], _, _, _, _, _, h => by simp at h
  | e :: ds, g :: cs, t, 0, d, c, h, k => by
    simp only [List.getElem?_cons_zero, Option.some.injEq] at h k
    subst h k
    rfl
  | e :: ds, g :: cs, t, i + 1, d, c, h, k => by
    simp only [List.getElem?_cons_succ] at h k
    exact bts_next (t := t ++ [dbitAt e g t]) h k
theorem bts_len : ∀ {ds : List Deed} {cs t : List Int}, ds.length = cs.length → (bts ds cs t).length = t.length + ds.length
  | [], [], _, _ => rfl
  | [], _ :: _, _, h => by simp at h
  | _ :: _, [], _, h => by simp at h
  | d :: ds, c :: cs, t, h => by
    show (bts ds cs (t ++ [dbitAt d c t])).length = _
    rw [bts_len (by simpa using h), List.length_append, List.length_cons, List.length_cons, List.length_nil]
    omega
theorem bts_bits : ∀ {ds : List Deed} {cs t : List Int}, (∀ x ∈ t, Bit x) → (∀ x ∈ cs, Bit x) → ∀ x ∈ bts ds cs t, Bit x
  | [], cs, t, h, _ => by
    unfold bts
    exact h
  | _ :: _, [], t, h, _ => by
    unfold bts
    exact h
  | d :: ds, c :: cs, t, h, k => by
    refine bts_bits (ds := ds) (cs := cs) (t := t ++ [dbitAt d c t]) (fun x hx => ?_) fun x hx => k x (List.mem_cons_of_mem _ hx)
    rcases List.mem_append.mp hx with hx | hx
    · exact h x hx
    · rw [List.mem_singleton.mp hx]
      exact dbit_bit (argAt_bit h d 0) (argAt_bit h d 1) (k c List.mem_cons_self)
theorem nxt_len {ds : List Deed} {cs t : List Int} (h : ds.length = cs.length) : (nxt ds cs t).length = ds.length := by
  unfold nxt
  rw [List.length_zipWith]
  omega
theorem nxt_bits {ds : List Deed} {cs t : List Int} (h : ∀ x ∈ t, Bit x) (k : ∀ x ∈ cs, Bit x) : ∀ x ∈ nxt ds cs t, Bit x := by
  intro x hx
  unfold nxt at hx
  obtain ⟨i, hi⟩ := List.mem_iff_getElem?.mp hx
  rw [List.getElem?_zipWith] at hi
  cases e1 : ds[i]? with
  | none => rw [e1] at hi; simp at hi
  | some d =>
    cases e2 : cs[i]? with
    | none => rw [e1, e2] at hi; simp at hi
    | some c =>
      rw [e1, e2] at hi
      have := Option.some.inj hi
      rw [← this]
      exact dcar_bit (argAt_bit h d 0) (argAt_bit h d 1) (k c (List.mem_of_getElem? e2))
theorem nxt_next {ds : List Deed} {cs t : List Int} {i : Nat} {d : Deed} {c : Int} (h : ds[i]? = some d) (k : cs[i]? = some c) : (nxt ds cs t).take (i + 1) = (nxt ds cs t).take i ++ [dcarAt d c t] := by
  rw [List.take_add_one]
  unfold nxt
  rw [List.getElem?_zipWith, h, k]
  rfl
section
variable {K : PySem.W.Frag} {a b : Addr} {xs ys : List V}
theorem walk_zipT (hn : xs.length = ys.length) : Walk (RZ.ItzT K a b) xs.length (fun H => SqT K H a xs ∧ SqT K H b ys) (YPair (fun i => xs[i]?) (fun i => ys[i]?)) where
  goes := fun i H hi q => ⟨xs, ys, xs[i], ys[i]'(by omega), q.1, q.2, List.getElem?_eq_getElem hi, List.getElem?_eq_getElem (by omega)⟩
  stops := fun H q => ⟨xs, ys, q.1, q.2, .inl (Nat.le_refl _)⟩
  yields := fun i H v H2 hi q y => by
    obtain ⟨T, x, z, h1, h2, h3, h4, h5⟩ := y
    exact ⟨T, x, z, h1, h2, h3, h4 xs q.1, h5 ys q.2⟩
end
/-! ### own exceptions as values -/
section
variable {X : Cx} {K : PySem.W.Frag}
theorem kit_ref {D C : Addr} {b : Bool} (h1 : PySem.W.isClsIn K C = true) (h2 : PySem.W.typeIn K (.ref C) = some (.type "type")) (h3 : PySem.W.subIn K (.ref D) (.ref C) = some b) (h4 : PySem.W.subIn K (.ref C) (.ref C) = some true) : PySem.W.kitOne K (.ref D) (.ref C) = some b := by
  unfold PySem.W.kitOne
  by_cases e : D = C
  · subst e
    rw [h3] at h4
    rw [if_pos (by simp), h4]
  · rw [if_neg (by simpa using e)]
    have e1 : ((PySem.W.clsIn K C).isSome && PySem.W.typeIn K (.ref C) == some (.type "type")) = true := by
      have h1' : (PySem.W.clsIn K C).isSome = true := h1
      rw [h1', h2]
      rfl
    show (if ((PySem.W.clsIn K C).isSome && PySem.W.typeIn K (.ref C) == some (.type "type")) = true then PySem.W.subIn K (.ref D) (.ref C) else none) = some b
    rw [if_pos e1]
    exact h3
theorem kit_ve {D : Addr} {b : Bool} (h : PySem.W.subIn K (.ref D) (.type "ValueError") = some b) : PySem.W.kitOne K (.ref D) (.type "ValueError") = some b := by
  have e1 : PySem.W.kitMeta "ValueError" = true := by decide +kernel
  show (if PySem.W.kitMeta "ValueError" = true then PySem.W.subIn K (.ref D) (.type "ValueError") else none) = some b
  rw [if_pos e1]
  exact h
def rIsX (K : PySem.W.Frag) : List V → Hp → VK → Prop := fun xs H Q => ∃ (a D : Addr) (c : V) (cv : Value) (b : Bool), xs = [.ref a, c] ∧ H a = some (ExO (.ref D) a) ∧ ExcC K D ∧ ClsV c cv ∧ PySem.W.kitOne K (.ref D) cv = some b ∧ Q (.bl b) H
theorem call_isX : CallR X (.builtin "isinstance") (rIsX X.K) := by
  intro pins s σ H xs us Q I r h
  obtain ⟨a, D, c, cv, b, rfl, ha, hD, hc, hk, q⟩ := h
  match us, r with
  | [u1, u2], .cons r1 (.cons r2 .nil) =>
    obtain rfl : u1 = Value.ref a := r1
    obtain rfl := ClsV.eq hc r2
    obtain ⟨⟨oe, vs, hget, ⟨z1, z2⟩, hv, _⟩, _, _⟩ := I.hok a _ ha
    have J : PySem.W.InstAt s.heap a oe D none := by
      obtain ⟨oc, od, oda, osl⟩ := oe
      dsimp only at z1 z2 hv
      subst z1 z2 hv
      exact ⟨hget, rfl, rfl, trivial⟩
    exact PySem.W.kia_one (PySem.W.handS_kitx_exc hD.hg hD.hk hD.hs hD.hd hD.ha hD.hn hD.ht hD.hm) I.kIn J hk (fun z => nomatch z) fun tk => ⟨.bl b, H, I.kept (t' := tk) fun _ _ z => z, rfl, q⟩
end
theorem dp_bls {K : PySem.W.Frag} {H : Hp} : ∀ cs : List Bool, DpAll K H (cs.map V.bl) (cs.map PyData.bool)
  | [] => .nil
  | c :: cs => .cons (.bl c) (dp_bls cs)
theorem lay_bls : ∀ cs : List Bool, PyData.canLayAll0 (cs.map PyData.bool) = true ∧ PyData.depthAll (cs.map PyData.bool) = 0
  | [] => ⟨by simp only [List.map_nil, PyData.canLayAll0], by simp only [List.map_nil, PyData.depthAll]⟩
  | c :: cs => by
    obtain ⟨h1, h2⟩ := lay_bls cs
    exact ⟨by simp only [List.map_cons, PyData.canLayAll0, PyData.canLay0, h1, Bool.and_self], by simp only [List.map_cons, PyData.depthAll, PyData.depth, h2, Nat.max_self]⟩
theorem shaped_bls (cs : List Bool) : SeqAt.shaped (.list (cs.map PyData.bool)) = true := by
  obtain ⟨h1, h2⟩ := lay_bls cs
  simp only [SeqAt.shaped, PyData.canLay0, PyData.depth, h1, h2, Bool.true_and]
  decide
theorem eqv_bls (l : List Bool) : PyData.eqv (.list (l.map PyData.bool)) (.list (l.map PyData.bool)) = true := SeqAt.eqv_refl _ (SeqAt.canLay_of_shaped (shaped_bls l))
/-- a test that is never asked -/
def tNevT : TT := fun _ _ _ => False
theorem pt_never {X : Cx} {e : Expr} : PT X e tNevT := ⟨fun _ _ _ _ _ _ h => h.elim⟩
end AW
namespace KK
open PySem PySem.Spec PyProof.Rows L2 AW
def topS (i : Nat) : Stmt := PySem.Challenge.pw_anywide_k31_agreeing_choices_at_any_widt.main.body.getD i (.Pass ⟨0, 0, 0, 0⟩)
abbrev s_wall : Stmt := topS 0
abbrev N_wall : List Str := ["k"]
theorem sc_wall : FnScope N_wall ["k"] (defScope s_wall) := ⟨rfl, rfl, rfl, by decide +kernel, rfl, by decide +kernel, by decide +kernel⟩
abbrev s_all_bits : Stmt := topS 2
abbrev N_all_bits : List Str := ["many", "choices", "place", "bits", "bit"]
theorem sc_all_bits : FnScope N_all_bits ["many"] (defScope s_all_bits) := ⟨rfl, rfl, rfl, by decide +kernel, rfl, by decide +kernel, by decide +kernel⟩
abbrev s_first_carry : Stmt := topS 3
abbrev N_first_carry : List Str := ["row", "deed"]
theorem sc_first_carry : FnScope N_first_carry ["row"] (defScope s_first_carry) := ⟨rfl, rfl, rfl, by decide +kernel, rfl, by decide +kernel, by decide +kernel⟩
abbrev s_deed_bit : Stmt := topS 4
abbrev N_deed_bit : List Str := ["deed", "held", "told", "word", "first", "second"]
theorem sc_deed_bit : FnScope N_deed_bit ["deed", "held", "told"] (defScope s_deed_bit) := ⟨rfl, rfl, rfl, by decide +kernel, rfl, by decide +kernel, by decide +kernel⟩
abbrev s_bits_of : Stmt := topS 5
abbrev N_bits_of : List Str := ["row", "carry", "bits", "told", "deed", "held"]
theorem sc_bits_of : FnScope N_bits_of ["row", "carry", "bits"] (defScope s_bits_of) := ⟨rfl, rfl, rfl, by decide +kernel, rfl, by decide +kernel, by decide +kernel⟩
abbrev s_two_or_more : Stmt := topS 6
abbrev N_two_or_more : List Str := ["one", "other", "third"]
theorem sc_two_or_more : FnScope N_two_or_more ["one", "other", "third"] (defScope s_two_or_more) := ⟨rfl, rfl, rfl, by decide +kernel, rfl, by decide +kernel, by decide +kernel⟩
abbrev s_deed_carry : Stmt := topS 7
abbrev N_deed_carry : List Str := ["deed", "held", "told", "word"]
theorem sc_deed_carry : FnScope N_deed_carry ["deed", "held", "told"] (defScope s_deed_carry) := ⟨rfl, rfl, rfl, by decide +kernel, rfl, by decide +kernel, by decide +kernel⟩
abbrev s_carry_behind : Stmt := topS 8
abbrev N_carry_behind : List Str := ["row", "carry", "told", "deed", "held"]
theorem sc_carry_behind : FnScope N_carry_behind ["row", "carry", "told"] (defScope s_carry_behind) := ⟨rfl, rfl, rfl, by decide +kernel, rfl, by decide +kernel, by decide +kernel⟩
abbrev s_steps : Stmt := topS 9
abbrev N_steps : List Str := ["row", "carry", "told", "bits", "all_told"]
theorem sc_steps : FnScope N_steps ["row", "carry"] (defScope s_steps) := ⟨rfl, rfl, rfl, by decide +kernel, rfl, by decide +kernel, by decide +kernel⟩
abbrev s_both_steps : Stmt := topS 15
abbrev N_both_steps : List Str := ["ones", "others", "bit", "after", "others_bit", "others_after"]
theorem sc_both_steps : FnScope N_both_steps ["ones", "others"] (defScope s_both_steps) := ⟨rfl, rfl, rfl, by decide +kernel, rfl, by decide +kernel, by decide +kernel⟩
abbrev s_check_pair : Stmt := topS 17
abbrev N_check_pair : List Str := ["row", "other"]
theorem sc_check_pair : FnScope N_check_pair ["row", "other"] (defScope s_check_pair) := ⟨rfl, rfl, rfl, by decide +kernel, rfl, by decide +kernel, by decide +kernel⟩
abbrev s_whole_machine : Stmt := topS 19
abbrev N_whole_machine : List Str := ["row", "choices", "walk", "machine", "at", "carry", "state", "bits", "bit", "after"]
theorem sc_whole_machine : FnScope N_whole_machine ["row"] (defScope s_whole_machine) := ⟨rfl, rfl, rfl, by decide +kernel, rfl, by decide +kernel, by decide +kernel⟩
abbrev s_numbered : Stmt := topS 20
abbrev N_numbered : List Str := ["looks", "numbers", "look"]
theorem sc_numbered : FnScope N_numbered ["looks"] (defScope s_numbered) := ⟨rfl, rfl, rfl, by decide +kernel, rfl, by decide +kernel, by decide +kernel⟩
abbrev s_kinds_of_states : Stmt := topS 21
abbrev N_kinds_of_states : List Str := ["machine", "kinds", "many", "behind", "bit", "after", "state"]
theorem sc_kinds_of_states : FnScope N_kinds_of_states ["machine"] (defScope s_kinds_of_states) := ⟨rfl, rfl, rfl, by decide +kernel, rfl, by decide +kernel, by decide +kernel⟩
abbrev s_least_machine : Stmt := topS 22
abbrev N_least_machine : List Str := ["row", "whole", "kinds", "least", "kind", "state", "bit", "after"]
theorem sc_least_machine : FnScope N_least_machine ["row"] (defScope s_least_machine) := ⟨rfl, rfl, rfl, by decide +kernel, rfl, by decide +kernel, by decide +kernel⟩
abbrev s_agreeing : Stmt := topS 24
abbrev N_agreeing : List Str := ["row", "other", "ones", "others", "choices", "walk", "behind", "at", "state", "others_state", "numbers", "bits", "bit", "others_bit", "after"]
theorem sc_agreeing : FnScope N_agreeing ["row", "other"] (defScope s_agreeing) := ⟨rfl, rfl, rfl, by decide +kernel, rfl, by decide +kernel, by decide +kernel⟩
abbrev s_how_often : Stmt := topS 25
abbrev N_how_often : List Str := ["row", "other", "width", "behind", "counts", "place", "number", "numbers"]
theorem sc_how_often : FnScope N_how_often ["row", "other", "width"] (defScope s_how_often) := ⟨rfl, rfl, rfl, by decide +kernel, rfl, by decide +kernel, by decide +kernel⟩
abbrev s_law_well : Stmt := topS 27
abbrev N_law_well : List Str := ["script", "seed", "cell"]
theorem sc_law_well : FnScope N_law_well ["script"] (defScope s_law_well) := ⟨rfl, rfl, rfl, by decide +kernel, rfl, by decide +kernel, by decide +kernel⟩
abbrev s_law_draw : Stmt := topS 28
abbrev N_law_draw : List Str := ["well", "many", "cell", "found"]
theorem sc_law_draw : FnScope N_law_draw ["well", "many"] (defScope s_law_draw) := ⟨rfl, rfl, rfl, by decide +kernel, rfl, by decide +kernel, by decide +kernel⟩
abbrev s_law_first_words : Stmt := topS 29
abbrev N_law_first_words : List Str := ["found", "word"]
theorem sc_law_first_words : FnScope N_law_first_words [] (defScope s_law_first_words) := ⟨rfl, rfl, rfl, by decide +kernel, rfl, by decide +kernel, by decide +kernel⟩
abbrev s_law_deed : Stmt := topS 30
abbrev N_law_deed : List Str := ["well", "ahead", "words", "word", "k"]
theorem sc_law_deed : FnScope N_law_deed ["well", "ahead"] (defScope s_law_deed) := ⟨rfl, rfl, rfl, by decide +kernel, rfl, by decide +kernel, by decide +kernel⟩
abbrev s_law_row : Stmt := topS 31
abbrev N_law_row : List Str := ["well", "many", "most", "size", "last", "deeds", "k", "out"]
theorem sc_law_row : FnScope N_law_row ["well", "many", "most"] (defScope s_law_row) := ⟨rfl, rfl, rfl, by decide +kernel, rfl, by decide +kernel, by decide +kernel⟩
abbrev s_law_second : Stmt := topS 32
abbrev N_law_second : List Str := ["well", "row", "way", "many", "deeds", "out", "at"]
theorem sc_law_second : FnScope N_law_second ["well", "row"] (defScope s_law_second) := ⟨rfl, rfl, rfl, by decide +kernel, rfl, by decide +kernel, by decide +kernel⟩
abbrev s_law_step : Stmt := topS 33
abbrev N_law_step : List Str := ["row", "carry", "bits", "found", "later", "k", "deed", "word", "c", "a", "b", "bit", "more", "number"]
theorem sc_law_step : FnScope N_law_step ["row", "carry", "bits"] (defScope s_law_step) := ⟨rfl, rfl, rfl, by decide +kernel, rfl, by decide +kernel, by decide +kernel⟩
abbrev s_law_first : Stmt := topS 34
abbrev N_law_first : List Str := ["row", "deed"]
theorem sc_law_first : FnScope N_law_first ["row"] (defScope s_law_first) := ⟨rfl, rfl, rfl, by decide +kernel, rfl, by decide +kernel, by decide +kernel⟩
abbrev s_law_choices : Stmt := topS 35
abbrev N_law_choices : List Str := ["many", "found", "place", "some"]
theorem sc_law_choices : FnScope N_law_choices ["many"] (defScope s_law_choices) := ⟨rfl, rfl, rfl, by decide +kernel, rfl, by decide +kernel, by decide +kernel⟩
abbrev s_law_behind : Stmt := topS 36
abbrev N_law_behind : List Str := ["row", "other", "pair", "found", "bits", "here", "there"]
theorem sc_law_behind : FnScope N_law_behind ["row", "other", "pair"] (defScope s_law_behind) := ⟨rfl, rfl, rfl, by decide +kernel, rfl, by decide +kernel, by decide +kernel⟩
abbrev s_law_counts : Stmt := topS 37
abbrev N_law_counts : List Str := ["row", "other", "widths", "ways", "known", "due", "width", "later", "pair", "there"]
theorem sc_law_counts : FnScope N_law_counts ["row", "other", "widths"] (defScope s_law_counts) := ⟨rfl, rfl, rfl, by decide +kernel, rfl, by decide +kernel, by decide +kernel⟩
abbrev s_law : Stmt := topS 38
abbrev N_law : List Str := ["script", "well", "widths", "many", "row", "other", "width"]
theorem sc_law : FnScope N_law ["script"] (defScope s_law) := ⟨rfl, rfl, rfl, by decide +kernel, rfl, by decide +kernel, by decide +kernel⟩
abbrev c_WideError : Stmt := topS 11
abbrev c_NoPair : Stmt := topS 12
abbrev c_Walk : Stmt := topS 14
section
variable {P : Program} {w : World} {K : PySem.W.Frag} {mg : Str → Option Value} {base : Heap}
/-! ### dicts whose keys are tuples: entries, walks, displays, the least value -/
section dts
theorem dt_raw {H : Hp} {h : Heap} {d : Addr} {kvs : List (List Key × V)} (ok : ObjOk P w H h d (.dT kvs)) :
    (d == sysModules) = false ∧ ∃ es ep, h.DictRaw d es ep ∧ es.size = kvs.length ∧ ∀ (i : Nat) (hi : i < es.size), ∃ k v q, kvs[i]? = some (k, v) ∧ es[i].key = .ref q ∧ H q = some (.tup (k.map kV)) ∧ RelV v es[i].val := by
  obtain ⟨_, hs, xs, pr, o, es, ep, ho, hx, hdt, he, _⟩ := ok
  have l1 : es.size = xs.length := size_of_entries he
  refine ⟨hs, es, ep, ⟨o, ho, hx, hdt⟩, l1.trans (awLen pr).symm, fun i hi => ?_⟩
  have hi2 : i < xs.length := by omega
  obtain ⟨⟨k, v⟩, h1, h2, h3, h4⟩ := awGet2 pr (List.getElem?_eq_getElem hi2)
  have e : es.toList[i]? = some (entryOfKey (tupleKind (mixKind P w)) xs[i]) := by
    rw [he, List.getElem?_map, List.getElem?_eq_getElem hi2]
    rfl
  have e2 : es[i] = entryOfKey (tupleKind (mixKind P w)) xs[i] := by
    rw [Array.getElem?_toList, Array.getElem?_eq_getElem hi] at e
    exact Option.some.inj e
  refine ⟨k, v, xs[i].2.1, h1, ?_, h3, ?_⟩
  · rw [e2]
    rfl
  · rw [e2]
    exact h4
/-- the pairs, each a new tuple with the key's own tuple -/
def ItT (d : Addr) (o : Obj) (kvs : List (List Key × V)) : It where
  go := fun i H => H d = some (.frz o (.dT kvs)) ∧ i < kvs.length
  yld := fun i H x H' => ∃ (T q : Addr) (k : List Key) (v : V), kvs[i]? = some (k, v) ∧ H q = some (.tup (k.map kV)) ∧ x = .ref T ∧ H T = none ∧ H' = upd H T (.tup [.ref q, v])
  stop := fun i H => H d = some (.frz o (.dT kvs)) ∧ kvs.length ≤ i
theorem turn_T {d : Addr} {o : Obj} {kvs : List (List Key × V)} {elts : List Expr} {kk : Nat} {tpos : Pos} (it : Addr) {ep : Nat} {es : Array DictEntry} (hod : o.data = .dict es ep) :
    Turn P w K (.Tuple elts kk tpos) (ItT d o kvs) [it] it (fun i h => ∃ x y, IsItemIter h it d i kvs.length ep x y) where
  mem := List.mem_singleton.mpr rfl
  obj := fun i h st b hb => by
    obtain rfl := List.mem_singleton.mp hb
    obtain ⟨x, y, e⟩ := st
    exact ⟨_, e, fun v z => nomatch z⟩
  keep := fun i h h' st k => by
    obtain ⟨x, y, e⟩ := st
    exact ⟨x, y, k it (List.mem_singleton.mpr rfl) _ e⟩
  item := by
    intro X hP hw hK hc i pins s σ H E I hf st hg
    subst hP hw hK
    obtain ⟨hd, hi⟩ := hg
    obtain ⟨hg1, okd⟩ := I.hok d _ hd
    obtain ⟨_, es', ep', raw, sz, ent⟩ := dt_raw okd
    have raw' := raw
    obtain ⟨o', ho', _, hdt'⟩ := raw'
    obtain rfl : o' = o := Option.some.inj (ho'.symm.trans hg1)
    obtain ⟨rfl, rfl⟩ := dict_ep hod hdt'
    obtain ⟨x, y, he⟩ := st
    have hi' : i < es'.size := by omega
    obtain ⟨k, v, q, hkv, hkey, hq, rv⟩ := ent i hi'
    rw [← sz] at he
    have below : it < s.heap.objs.size := Heap.lt_size he
    refine wpAny_pyNext_items_item_raw he raw hi' fun h' ho hT _ hk => ?_
    refine ⟨_, rfl, wpAny_letOwnedTupleGo_items (s := { s with heap := h' }) ho fun h2 he2 sb => ?_⟩
    have there : h2.get? s.heap.objs.size = some { cls := .type "tuple", data := .seq #[es'[i].key, es'[i].val] } := (sb.2 _ (Nat.ne_of_gt below)).trans hT
    have laid : ObjOk X.prog X.w (upd H s.heap.objs.size (.tup [.ref q, v])) h2 s.heap.objs.size (.tup [.ref q, v]) :=
      ⟨by show 2 ≤ sizeLine; decide, [es'[i].key, es'[i].val], .cons hkey (.cons rv .nil), ⟨_, there, rfl, _, rfl⟩⟩
    refine ⟨.ref s.heap.objs.size, _, I.turnedNew (t' := s.toks) (ch := [it]) (fun b ob hb e => ?_) hf (Nat.le_refl _) laid, rfl, ⟨_, q, k, v, hkv, hq, rfl, I.hok.fresh (Nat.le_refl _), rfl⟩, ⟨es'[i].key, es'[i].val, by rw [← sz]; exact he2⟩, fun b hb => ?_⟩
    · have nb : b ≠ it := fun z => hb (List.mem_singleton.mpr z)
      exact (sb.2 b nb).trans (hk b ob nb e)
    · obtain rfl := List.mem_singleton.mp hb
      rw [upd_ne (Nat.ne_of_lt below)]
      exact (hf b hb).1
  done := by
    intro X hP hw hK hc i pins s σ H E I hf st hg
    subst hP hw hK
    obtain ⟨hd, hi⟩ := hg
    obtain ⟨f0, f1, f2, f3, f4, f5⟩ := hf it (List.mem_singleton.mpr rfl)
    obtain ⟨hg1, okd⟩ := I.hok d _ hd
    obtain ⟨_, es', ep', raw, sz, _⟩ := dt_raw okd
    have raw' := raw
    obtain ⟨o', ho', _, hdt'⟩ := raw'
    obtain rfl : o' = o := Option.some.inj (ho'.symm.trans hg1)
    obtain ⟨rfl, rfl⟩ := dict_ep hod hdt'
    obtain ⟨x, y, he⟩ := st
    rw [← sz] at he
    refine wpAny_pyNext_items_end_raw (I.ok.hd hc) he raw (by omega) fun h' eb => ⟨rfl, ?_⟩
    exact I.turned (t' := s.toks) (fun b ob hb e => eb b ob hb e) f0 f1 f3 f4 f5
  self := fun A i s Q E st h => by
    obtain ⟨x, y, e⟩ := st
    exact wpAny_pyIter_itemiter e h
variable {X : Cx} {e : Expr} {td : TE} {apos cpos : Pos}
def iItT (td : TE) : TI := fun σ H R => td σ H fun x H1 => ∃ d o kvs, x = .ref d ∧ H1 d = some (.frz o (.dT kvs)) ∧ R (ItT d o kvs) H1
theorem pi_itT {elts : List Expr} {kk : Nat} {tpos : Pos} (he : PE X e td) (hb : attributeBase e "items" X.env (eval e X.env) = eval e X.env := by rfl) (hl : (apos.endLine == cpos.line) = true := by rfl) :
    PI X (.Tuple elts kk tpos) (.Call (.Attribute e "items" apos) [] [] cpos) (iItT td) := by
  constructor
  intro pins s σ H R I h
  refine wpAny_Call_method (T := "dict") (id := "dict.items") hb rfl hl F.plainAttrs_dict F.slot_dict_items F.type_dict_items (thn (he.run pins s σ H _ I h) ?_)
  rintro u s1 ⟨x, H1, I1, rx, d, o, kvs, rfl, hd, q⟩
  obtain rfl : u = Value.ref d := rx
  obtain ⟨hg1, okd⟩ := I1.hok d _ hd
  obtain ⟨hs, es, ep, raw, sz, _⟩ := dt_raw okd
  have raw' := raw
  obtain ⟨o', ho', hx', hdt'⟩ := raw'
  obtain rfl : o' = o := Option.some.inj (ho'.symm.trans hg1)
  have I2 : Inv X pins σ H1 { s1 with heap := s1.heap.push { cls := .type "dict_items", data := .fields #[.ref d] } } := I1.kept (t' := s1.toks) fun b ob z => Heap.get?_push_of_some _ z
  refine ⟨raw.typeIs, fun a z => ⟨o', by cases z; exact hg1, hx'.2.1⟩, ?_⟩
  refine method_meetsIn F.slot_dict_items F.entry_dict_items rfl (PySem.evalArgs_none ⟨rfl, raw.typeIs, F.args_dict_items_1 _, _, meets_dict_items_raw d hs, ⟨es, ep, raw⟩, ?_⟩)
  refine wpAny_pyIter_items_raw (d := d) ⟨_, Heap.get?_push_size _ rfl, rfl, rfl⟩ (raw.at fun ob z => Heap.get?_push_of_some _ z) (pi_one (tk := s1.toks) I2 _ (turn_T _ hdt') ⟨.none, .none, ?_⟩ q)
  rw [← sz]
  exact Heap.get?_push_size _ rfl
theorem walk_T {d : Addr} {o : Obj} {kvs : List (List Key × V)} : Walk (ItT d o kvs) kvs.length (fun H => H d = some (.frz o (.dT kvs)))
    (fun i H x H' => ∃ (T q : Addr) (k : List Key) (v : V), kvs[i]? = some (k, v) ∧ H q = some (.tup (k.map kV)) ∧ x = .ref T ∧ H T = none ∧ H' = upd H T (.tup [.ref q, v])) :=
  ⟨fun _ _ hi q => ⟨q, hi⟩, fun _ q => ⟨q, Nat.le_refl _⟩, fun _ _ _ _ _ _ y => y⟩
/-- d.values() -/
def valsO (p d : Addr) : HO := .ext fun h => h.IsValuesView p d
theorem valsO_ok {H : Hp} {h : Heap} {p d : Addr} (e : h.get? p = some { cls := .type "dict_values", data := .fields #[.ref d] }) : ObjOk P w H h p (valsO p d) := by
  refine ⟨⟨_, e, rfl, rfl⟩, ⟨_, e⟩, ?_⟩
  rintro h1 h2 ⟨o, ho, r⟩ k
  exact ⟨o, k o ho, r⟩
def rValsT : V → List V → Hp → VK → Prop := fun x xs H Q => ∃ (a : Addr) (kvs : List (List Key × V)), x = .ref a ∧ xs = [] ∧ H a = some (.dT kvs) ∧ ∀ p, H p = none → Q (.ref p) (upd H p (valsO p a))
theorem mt_valsT : MtR X "dict.values" rValsT := by
  intro pins s σ H x xs v us Q I rx rxs h
  obtain ⟨a, kvs, rfl, rfl, ha, q⟩ := h
  cases rx
  cases rxs
  obtain ⟨hs, es, ep, raw, _⟩ := dt_raw (I.hok a _ ha)
  refine call_meetsIn F.slot_dict_values raw.typeIs F.entry_dict_values (F.args_dict_values_1 _) (meets_dict_values_raw a hs) ⟨⟨es, ep, raw⟩, ?_⟩
  have I2 := I.laid (o := valsO s.heap.objs.size a) (t' := s.toks) (fun b u z => Heap.get?_push_of_some _ z) (Nat.le_refl _) (valsO_ok (H := upd H s.heap.objs.size (valsO s.heap.objs.size a)) (Heap.get?_push_size _ rfl))
  exact ⟨.ref _, _, I2, rfl, q _ (I.hok.fresh (Nat.le_refl _))⟩
theorem best_least {f : Nat → Int} : ∀ n, argBest (fun i j => decide (f i < f j)) n ≤ n ∧ ∀ j, j ≤ n → f (argBest (fun i j => decide (f i < f j)) n) ≤ f j
  | 0 => ⟨Nat.le_refl _, fun j hj => (Nat.le_zero.mp hj).symm ▸ Int.le_refl _⟩
  | n + 1 => by
    obtain ⟨h1, h2⟩ := best_least (f := f) n
    unfold argBest
    by_cases e : f (n + 1) < f (argBest (fun i j => decide (f i < f j)) n)
    · rw [if_pos (by simpa using e)]
      refine ⟨Nat.le_refl _, fun j hj => ?_⟩
      by_cases hj2 : j ≤ n
      · have := h2 j hj2
        omega
      · obtain rfl : j = n + 1 := by omega
        exact Int.le_refl _
    · rw [if_neg (by simpa using e)]
      refine ⟨by omega, fun j hj => ?_⟩
      by_cases hj2 : j ≤ n
      · exact h2 j hj2
      · obtain rfl : j = n + 1 := by omega
        omega
/-- min(d.values()), the values ints -/
def rMinV : List V → Hp → VK → Prop := fun vs H Q => ∃ (p a : Addr) (kvs : List (List Key × V)) (zs : List Int), vs = [.ref p] ∧ H p = some (valsO p a) ∧ H a = some (.dT kvs) ∧ kvs.map (·.2) = zs.map V.int ∧ zs ≠ [] ∧ ∀ z, z ∈ zs → (∀ y ∈ zs, z ≤ y) → Q (.int z) H
theorem call_minV (hc : X.calm = true) : CallR X (.builtin "min") rMinV := by
  intro pins s σ H vs us Q I r h
  obtain ⟨p, a, kvs, zs, rfl, hp, ha, hz, hne, q⟩ := h
  obtain ⟨u, rfl, ru⟩ := vals1 r
  obtain rfl : u = Value.ref p := ru
  obtain ⟨hs, es, ep, raw, sz, ent⟩ := dt_raw (I.hok a _ ha)
  have hv : s.heap.IsValuesView p a := (I.hok p _ hp).1
  have zl : zs.length = es.size := by
    have := congrArg List.length hz
    rw [List.length_map, List.length_map] at this
    omega
  have la : a < s.heap.objs.size := raw.elim fun o z => Heap.lt_size z.1
  refine call_min_walk (wpAny_pyIter_values_raw hv raw ?_)
  have rel : ∀ i v, (∃ hi : i < es.size, v = es[i].val) → ∃ t, v = .int (zs.getD i 0) t := by
    rintro i v ⟨hi, rfl⟩
    obtain ⟨k, v, _, hkv, _, _, rv⟩ := ent i hi
    have e : (kvs.map (·.2))[i]? = some v := by rw [List.getElem?_map, hkv]; rfl
    rw [hz, List.getElem?_map] at e
    cases e2 : zs[i]? with
    | none => rw [e2] at e; cases e
    | some z =>
      rw [e2] at e
      obtain rfl : V.int z = v := Option.some.inj e
      rw [List.getD_eq_getElem?_getD, e2]
      exact rv
  refine ⟨s.heap.objs.size, [s.heap.objs.size, a], [s.heap.objs.size], es.size, _, _, fun i j => decide (zs.getD i 0 < zs.getD j 0), rfl, Walks.rawValues (A := X.A.in1) (I.ok.hd hc) _ a (Nat.ne_of_lt la) es ep, ?_, ?_, ?_, CmpOf.ints_lt (fun i => zs.getD i 0) rel, ?_⟩
  · exact ⟨⟨_, Heap.get?_push_size _ rfl, rfl, rfl⟩, raw.at fun o z => Heap.get?_push_of_some _ z⟩
  · intro b hb
    show b < (s.heap.push _).objs.size
    rw [Heap.size_push]
    simp only [List.mem_cons, List.not_mem_nil, or_false] at hb
    rcases hb with rfl | rfl
    · exact Nat.lt_succ_self _
    · exact Nat.lt_succ_of_lt la
  · have := List.length_pos_iff.mpr hne
    omega
  · intro v h' tk hP hk
    obtain ⟨t, rfl⟩ := rel _ _ hP
    obtain ⟨b1, b2⟩ := best_least (f := fun i => zs.getD i 0) (es.size - 1)
    have pos := List.length_pos_iff.mpr hne
    generalize argBest (fun i j => decide (zs.getD i 0 < zs.getD j 0)) (es.size - 1) = m at b1 b2 hP
    have hm : m < zs.length := by omega
    have em : zs.getD m 0 = zs[m] := by rw [List.getD_eq_getElem?_getD, List.getElem?_eq_getElem hm]; rfl
    refine ⟨.int (zs.getD m 0), H, I.kept fun b o e => hk b o (fun z => ?_) (Heap.get?_push_of_some _ e), ⟨t, rfl⟩, q _ (by rw [em]; exact List.getElem_mem hm) fun y hy => ?_⟩
    · exact absurd (List.mem_singleton.mp z) (Nat.ne_of_lt (Heap.lt_size e))
    · obtain ⟨j, hj, rfl⟩ := List.mem_iff_getElem.mp hy
      have := b2 j (by omega)
      have ej : zs.getD j 0 = zs[j] := by rw [List.getD_eq_getElem?_getD, List.getElem?_eq_getElem hj]; rfl
      rw [ej] at this
      exact this
/-- whether a dict is not empty -/
theorem truth_H {κ : Type} [DecidableEq κ] {knd : HeapKind P w κ} {A : Around} {E : Value → Shared → Prop} {s : Shared} {d : Addr} {xs : List (κ × Addr × Value)} {Q : Bool → Shared → Prop} (hd : (d == sysModules) = false) (hm : s.heap.DictOfH knd d xs)
    (hf : (xs.length : Int) < 2 ^ 63) (h : Q (!xs.isEmpty) { s with toks := s.toks + 1 + 1 }) : wpAny (model P w) A (truthy (.ref d)) Q E s := by
  have e : ((xs.length : Int) != 0) = !xs.isEmpty := by cases xs <;> simp <;> omega
  have run : wpAny (model P w) A (runValue (.builtin "len" ⟨[.ref d], []⟩)) (fun r s' => r = .int xs.length (s.toks + 1) ∧ Q (!xs.isEmpty) s') E s := by
    apply wpAny_runValue
    apply codeAny_builtin entry_len
    rw [Around.under_plainId plain_len _]
    refine wpAny_mono (wpAny_len_body_dictH (Q := fun r s' => r = .int xs.length (s.toks + 1) ∧ Q (!xs.isEmpty) s') hd hm hf ⟨rfl, h⟩) ?_ (fun _ _ z => z)
    rintro fin s' ⟨r, rfl, z⟩
    exact z
  unfold truthy
  first
  | apply wpAny_bind; refine wpAny_callSpecial?_none (name := Str.ofString "__bool__") hm.typeIs noBool_dict ?_
  | apply wpAny_bind; apply wpAny_pure; apply wpAny_bind; refine wpAny_callSpecial?_none (name := Str.ofString "__bool__") hm.typeIs noBool_dict ?_
  first
  | apply wpAny_bind; refine wpAny_specialOf (name := Str.ofString "__len__") hm.typeIs F.slot_dict_len.lookup ?_
  | apply wpAny_bind; apply wpAny_pure; apply wpAny_bind; refine wpAny_specialOf (name := Str.ofString "__len__") hm.typeIs F.slot_dict_len.lookup ?_
  first
  | apply wpAny_bind
    refine wpAny_mono run ?_ (fun _ _ z => z)
    rintro r s' ⟨rfl, z⟩
    exact wpAny_pure (e ▸ z)
  | apply wpAny_bind
    apply wpAny_pure
    apply wpAny_bind
    refine wpAny_mono run ?_ (fun _ _ z => z)
    rintro r s' ⟨rfl, z⟩
    exact wpAny_pure (e ▸ z)
theorem tru_dT : TruR X (fun x H Q => ∃ a kvs, x = .ref a ∧ H a = some (.dT kvs) ∧ Q (!kvs.isEmpty) H) := by
  intro pins s σ H x v Q I rx h
  obtain ⟨a, kvs, rfl, ha, q⟩ := h
  obtain rfl : v = Value.ref a := rx
  obtain ⟨z, hd, ys, rel, dd⟩ := dt_of I.hok ha
  have hl : kvs.length = ys.length := awLen rel
  refine truth_H hd dd (by rw [← hl]; rw [sizeLine_eq] at z; omega) ⟨H, I.tok _, ?_⟩
  have e : (!ys.isEmpty) = !kvs.isEmpty := by cases rel <;> rfl
  rw [e]
  exact q
/-- {t: v}, t a tuple -/
def tDispT (tk tv : TE) : TE := fun σ H Q => ∀ p, H p = none → tk σ (upd H p (.dT [])) fun x H1 => tv σ H1 fun v H2 => ∃ b k, x = .ref b ∧ H2 b = some (.tup (k.map kV)) ∧ H2 p = some (.dT []) ∧ Q (.ref p) (upd H2 p (.dT [(k, v)]))
theorem pe_dispT {ek ev : Expr} {tk tv : TE} {pos : Pos} (hu : X.A.units < cLine) (hk : PE X ek tk) (hv : PE X ev tv) : PE X (.Dict [some ek] [ev] pos) (tDispT tk tv) := by
  constructor
  intro pins s σ H Q I q
  have hn := I.hok.fresh (Nat.le_refl s.heap.objs.size)
  have I1 := I.laid (a := s.heap.objs.size) (o := .dT []) (h' := s.heap.push { cls := .type "dict", data := .dict #[] }) (t' := s.toks) (fun _ _ z => Heap.get?_push_of_some _ z) (Nat.le_refl _) (dt_empty s.heap I.big)
  rw [arm_eval_Dict, zip_pairTrees [some ek] [ev] X.env pos rfl rfl, dictDisplay_pairs (pairTrees [some ek] [ev] X.env pos) (by simp [pairTrees]) (by simp [pairTrees])]
  apply wpAny_bind
  apply wpAny_standAt
  apply wpAny_bind
  refine wpAny_subDictH (knd := tupleKind (mixKind X.prog X.w)) (show X.A.units < cLine from hu) (by show 1 ≤ 15; decide) ?_
  refine thn ((pps_cons (pos := pos) hk hv pps_nil).run pins _ σ _ (fun ps H2 => match ps with | [(x, v)] => ∃ b k, x = .ref b ∧ H2 b = some (.tup (k.map kV)) ∧ H2 s.heap.objs.size = some (.dT []) ∧ Q (.ref s.heap.objs.size) (upd H2 s.heap.objs.size (.dT [(k, v)])) | _ => False) I1 (q _ hn)) ?_
  rintro ws s2 ⟨ps, H2, I2, rel, hq⟩
  match ps, ws, rel, hq with
  | [(x, v)], [(u1, u2)], .cons ⟨r1, r2⟩ .nil, ⟨b, k, e, hb, hp, q2⟩ =>
    subst e
    obtain rfl : u1 = Value.ref b := r1
    obtain ⟨_, hd, ys, r0, dd⟩ := dt_of I2.hok hp
    cases r0
    refine ⟨[(k, b, u2)], ⟨rfl, rfl, key_of I2.hok hb, trivial⟩, dd, fun h' tk dd' hs => ?_⟩
    obtain ⟨o, es, ep, ho, h2, h3, h4, _, h5⟩ := dd'
    have npb : b ≠ s.heap.objs.size := ne_of hb hp (fun z => nomatch z)
    have I3 : Inv X pins σ (upd H2 s.heap.objs.size (.dT [(k, v)])) { s2 with heap := h', toks := tk } :=
      d_write I2 (by rw [hp]; exact True.intro) hs ⟨o, ho⟩ ⟨by show 1 ≤ sizeLine; decide, hd, [(k, b, u2)], .cons ⟨rfl, by rw [upd_ne npb]; exact hb, r2⟩ .nil, o, es, ep, ho, h2, h3, h4, h5⟩
    exact wpAny_pure ⟨.ref s.heap.objs.size, _, I3, rfl, q2⟩
end dts
/-! ### dicts whose keys are nested tuples of ints -/
mutual
inductive NkAt (H : Hp) : NestedKey → V → Prop
  | num (i : Int) : NkAt H (.num i) (.int i)
  | tup {a : Addr} {xs : List V} {ks : List NestedKey} : H a = some (.tup xs) → NkAll H ks xs → NkAt H (.tup ks) (.ref a)
inductive NkAll (H : Hp) : List NestedKey → List V → Prop
  | nil : NkAll H [] []
  | cons {k : NestedKey} {v : V} {ks : List NestedKey} {vs : List V} : NkAt H k v → NkAll H ks vs → NkAll H (k :: ks) (v :: vs)
end
section nds
variable {X : Cx}
mutual
theorem nk_is {pins : List (Addr × Obj)} {σ : L2.St} {H : Hp} {s : Shared} (I : Inv X pins σ H s) : ∀ (k : NestedKey) (v : V) (u : Value), NkAt H k v → RelV v u → NestedIs s.heap k u
  | .none, _, _, h, _ => nomatch h
  | .text _, _, _, h, _ => nomatch h
  | .num i, _, _, h, r => by
    cases h
    obtain ⟨t, rfl⟩ := r
    exact .int _ _
  | .tup ks, _, _, h, r => by
    cases h with
    | tup e hs =>
      cases r
      obtain ⟨_, its, rv, o, ho, hc, n, hd⟩ := I.hok _ _ e
      exact .tup ho hc hd (by simpa using nks_is I ks _ _ hs rv)
theorem nks_is {pins : List (Addr × Obj)} {σ : L2.St} {H : Hp} {s : Shared} (I : Inv X pins σ H s) : ∀ (ks : List NestedKey) (vs : List V) (us : List Value), NkAll H ks vs → Vals vs us → NestedAll s.heap ks us
  | [], _, _, h, r => by
    cases h
    cases r
    exact .nil
  | k :: ks, _, _, h, r => by
    cases h with
    | cons h1 h2 =>
      cases r with
      | cons r1 r2 => exact .cons (nk_is I k _ _ h1 r1) (nks_is I ks _ _ h2 r2)
end
mutual
theorem nk_stay {H H' : Hp} (t : TupsStay H H') : ∀ (k : NestedKey) (v : V), NkAt H k v → NkAt H' k v
  | .none, _, h => nomatch h
  | .text _, _, h => nomatch h
  | .num i, _, h => by
    cases h
    exact .num i
  | .tup ks, _, h => by
    cases h with
    | tup e hs => exact .tup (t _ _ e) (nks_stay t ks _ hs)
theorem nks_stay {H H' : Hp} (t : TupsStay H H') : ∀ (ks : List NestedKey) (vs : List V), NkAll H ks vs → NkAll H' ks vs
  | [], _, h => by
    cases h
    exact .nil
  | k :: ks, _, h => by
    cases h with
    | cons h1 h2 => exact .cons (nk_stay t k _ h1) (nks_stay t ks _ h2)
end
abbrev NE := NestedKey × Addr × V
abbrev NRel : List NE → List (NestedKey × Addr × Value) → Prop := Paired fun p q => p.1 = q.1 ∧ p.2.1 = q.2.1 ∧ RelV p.2.2 q.2.2
def NDO (P : Program) (w : World) (a : Addr) (xs : List NE) : HO := .ext fun h => xs.length ≤ sizeLine ∧ (a == sysModules) = false ∧ ∃ ys, NRel xs ys ∧ ∃ o es ep, h.get? a = some o ∧ o.ExactDict ∧ o.data = .dict es ep ∧ es.toList = ys.map (entryOfKey (nestedKind P w)) ∧ (ys.map (·.1)).Nodup
theorem ndo_ok {P : Program} {w : World} {H : Hp} {h : Heap} {a : Addr} {xs : List NE} {ys : List (NestedKey × Addr × Value)} (hz : xs.length ≤ sizeLine) (hd : (a == sysModules) = false) (r : NRel xs ys) (dd : h.DictOfH (nestedKind P w) a ys) : ObjOk P w H h a (NDO P w a xs) := by
  obtain ⟨o, es, ep, h1, h2, h3, h4, _, h5⟩ := dd
  refine ⟨⟨hz, hd, ys, r, o, es, ep, h1, h2, h3, h4, h5⟩, ⟨o, h1⟩, ?_⟩
  rintro g1 g2 ⟨z1, z2, ys, z3, o, es, ep, z4, z5⟩ k
  exact ⟨z1, z2, ys, z3, o, es, ep, k o z4, z5⟩
structure ND (P : Program) (w : World) (H : Hp) (a : Addr) (xs : List NE) : Prop where
  ob : H a = some (NDO P w a xs)
  ks : ∀ p ∈ xs, NkAt H p.1 (.ref p.2.1) ∧ p.1.depth ≤ 8
theorem ND.full {pins : List (Addr × Obj)} {σ : L2.St} {H : Hp} {s : Shared} {a : Addr} {xs : List NE} (I : Inv X pins σ H s) (h : ND X.prog X.w H a xs) : xs.length ≤ sizeLine ∧ (a == sysModules) = false ∧ ∃ ys, NRel xs ys ∧ s.heap.DictOfH (nestedKind X.prog X.w) a ys := by
  obtain ⟨⟨z1, z2, ys, z3, o, es, ep, z4, z5, z6, z7, z8⟩, _⟩ := I.hok a _ h.ob
  refine ⟨z1, z2, ys, z3, o, es, ep, z4, z5, z6, z7, fun y hy => ?_, z8⟩
  obtain ⟨i, hi⟩ := List.mem_iff_getElem?.mp hy
  obtain ⟨p, hp, e1, e2, _⟩ := awGet2 z3 hi
  obtain ⟨k1, k2⟩ := h.ks p (List.mem_of_getElem? hp)
  rw [e1, e2] at k1
  rw [e1] at k2
  exact ⟨nk_is I _ _ _ k1 rfl, k2⟩
def getN (xs : List NE) (k : NestedKey) : Option V := (xs.find? fun x => decide (x.1 = k)).map (·.2.2)
theorem getN_rel {k : NestedKey} : ∀ {xs : List NE} {ys : List (NestedKey × Addr × Value)}, NRel xs ys → RelO (getN xs k) ((atKey ys k).map (·.2))
  | _, _, .nil => trivial
  | x :: _, y :: _, .cons ⟨e1, _, e3⟩ t => by
    have ih := getN_rel (k := k) t
    unfold getN atKey at *
    rw [List.find?_cons, List.find?_cons, ← e1]
    by_cases h : x.1 = k
    · rw [decide_eq_true h]
      exact e3
    · rw [decide_eq_false h]
      exact ih
theorem getN_none {k : NestedKey} {xs : List NE} : getN xs k = none ↔ ∀ p ∈ xs, p.1 ≠ k := by
  unfold getN
  rw [Option.map_eq_none_iff, List.find?_eq_none]
  simp
theorem getN_some {k : NestedKey} {xs : List NE} {v : V} (h : getN xs k = some v) : ∃ b, (k, b, v) ∈ xs := by
  unfold getN at h
  cases e : xs.find? fun x => decide (x.1 = k) with
  | none => rw [e] at h; cases h
  | some p =>
    rw [e] at h
    have h2 : p.1 = k := of_decide_eq_true (List.find?_some (p := fun x : NE => decide (x.1 = k)) e)
    obtain rfl : p.2.2 = v := Option.some.inj h
    exact ⟨p.2.1, h2 ▸ List.mem_of_find?_eq_some e⟩
theorem getN_snoc {k j : NestedKey} {b : Addr} {v : V} {xs : List NE} (hn : getN xs k = none) : getN (xs ++ [(k, b, v)]) j = if j = k then some v else getN xs j := by
  unfold getN at *
  rw [List.find?_append]
  by_cases h : j = k
  · subst h
    rw [if_pos rfl, Option.map_eq_none_iff.mp hn]
    simp
  · rw [if_neg h]
    have hk : ¬ k = j := fun z => h z.symm
    cases xs.find? fun x => decide (x.1 = j) with
    | none => simp [hk]
    | some p => rfl
theorem nd_stay {P : Program} {w : World} {H H' : Hp} {a : Addr} {xs : List NE} (h : ND P w H a xs) (e : H' a = some (NDO P w a xs)) (t : TupsStay H H') : ND P w H' a xs := ⟨e, fun p hp => ⟨nk_stay t _ _ (h.ks p hp).1, (h.ks p hp).2⟩⟩
theorem nd_same {P : Program} {w : World} {H H' : Hp} {a : Addr} {xs : List NE} (h : ND P w H a xs) (s : Same H H') : ND P w H' a xs := nd_stay h (s _ _ h.ob) (Same.tups s)
/-- {} -/
theorem pe_ndnew {P : Program} {w : World} (hP : X.prog = P) (hw : X.w = w) {pos : Pos} : PE X (.Dict [] [] pos) (fun _ H Q => ∀ p, H p = none → Q (.ref p) (upd H p (NDO P w p []))) := by
  subst hP hw
  constructor
  intro pins s σ H Q I h
  have ok : ObjOk X.prog X.w (upd H s.heap.objs.size (NDO X.prog X.w s.heap.objs.size [])) (s.heap.push { cls := .type "dict", data := .dict #[] }) s.heap.objs.size (NDO X.prog X.w s.heap.objs.size []) :=
    ndo_ok (Nat.zero_le _) (beq_eq_false_iff_ne.mpr (Ne.symm (Nat.ne_of_lt I.big))) .nil (Heap.DictOfH.new s.heap)
  exact wpAny_Dict_empty ⟨.ref _, _, I.laid (t' := s.toks) (fun _ _ z => Heap.get?_push_of_some _ z) (Nat.le_refl _) ok, rfl, h _ (I.hok.fresh (Nat.le_refl _))⟩
theorem nd_nil {P : Program} {w : World} {H : Hp} {a : Addr} : ND P w (upd H a (NDO P w a [])) a [] := ⟨upd_same, (fun _ z => nomatch z)⟩
/-- what is asked of a key -/
def KeyN (H : Hp) (y : V) (k : NestedKey) : Prop := NkAt H k y ∧ k.depth ≤ 8 ∧ ∃ b, y = .ref b
def tNGet (P : Program) (w : World) (td ty : TE) : TE := fun σ H Q => td σ H fun x H1 => ty σ H1 fun y H2 => ∃ a xs k v, x = .ref a ∧ ND P w H2 a xs ∧ KeyN H2 y k ∧ getN xs k = some v ∧ Q v H2
def tNNotIn (P : Program) (w : World) (ty td : TE) : TE := fun σ H Q => ty σ H fun y H1 => td σ H1 fun x H2 => ∃ a xs k, x = .ref a ∧ ND P w H2 a xs ∧ KeyN H2 y k ∧ Q (.bl (!(getN xs k).isSome)) H2
def sNPut (P : Program) (w : World) (td ty tv : TE) : TS := fun D σ H => tv σ H fun v H1 => td σ H1 fun x H2 => ty σ H2 fun y H3 => ∃ a xs k b, x = .ref a ∧ ND P w H3 a xs ∧ y = .ref b ∧ KeyN H3 y k ∧ getN xs k = none ∧ xs.length < sizeLine ∧ D.nx σ (upd H3 a (NDO P w a (xs ++ [(k, b, v)])))
theorem nd_put {P : Program} {w : World} {H : Hp} {a b : Addr} {xs : List NE} {k : NestedKey} {v : V} (h : ND P w H a xs) (hk : KeyN H (.ref b) k) : ND P w (upd H a (NDO P w a (xs ++ [(k, b, v)]))) a (xs ++ [(k, b, v)]) := by
  have t : TupsStay H (upd H a (NDO P w a (xs ++ [(k, b, v)]))) := fun c ys e => by
    rw [upd_ne (ne_of e h.ob (fun z => nomatch z))]
    exact e
  refine ⟨upd_same, fun p hp => ?_⟩
  rcases List.mem_append.mp hp with hp | hp
  · exact ⟨nk_stay t _ _ (h.ks p hp).1, (h.ks p hp).2⟩
  · rw [List.mem_singleton.mp hp]
    exact ⟨nk_stay t _ _ hk.1, hk.2.1⟩
theorem nd_at {pins : List (Addr × Obj)} {σ : L2.St} {H : Hp} {s : Shared} {y : V} {k : NestedKey} {u : Value} (I : Inv X pins σ H s) (hk : KeyN H y k) (r : RelV y u) : ∃ b, u = .ref b ∧ y = .ref b ∧ (nestedKind X.prog X.w).is s.heap k b := by
  obtain ⟨h1, h2, b, rfl⟩ := hk
  obtain rfl : u = Value.ref b := r
  exact ⟨b, rfl, rfl, nk_is I _ _ _ h1 rfl, h2⟩
theorem nrel_none {k : NestedKey} {xs : List NE} {ys : List (NestedKey × Addr × Value)} (r : NRel xs ys) (h : getN xs k = none) : atKey ys k = none := by
  have z := getN_rel (k := k) r
  rw [h] at z
  cases e : atKey ys k with
  | none => rfl
  | some p => rw [e] at z; exact z.elim
theorem pe_ndget {P : Program} {w : World} (hP : X.prog = P) (hw : X.w = w) {o i : Expr} {td ty : TE} {pos : Pos} (hu : X.A.units + 64 < cLine) (ho : PE X o td) (hi : PE X i ty) (hs : NoSl i) : PE X (.Subscript o i pos) (tNGet P w td ty) := by
  subst hP hw
  constructor
  intro pins s σ H Q I h
  refine subD_of PySem.F.slot_dict_getitem.lookup hs (thn (ho.run pins s σ H _ I h) ?_)
  rintro u s1 ⟨x, H1, I1, rx, q1⟩
  refine thn (hi.run pins s1 σ H1 _ I1 q1) ?_
  rintro iv s2 ⟨y, H2, I2, ry, a, xs, k, v, rfl, hn, hk, hv, q2⟩
  obtain rfl : u = Value.ref a := rx
  obtain ⟨b, rfl, rfl, hb⟩ := nd_at I2 hk ry
  obtain ⟨_, hd, ys, r, dd⟩ := hn.full I2
  have z := getN_rel (k := k) r
  rw [hv] at z
  cases e : atKey ys k with
  | none => rw [e] at z; exact z.elim
  | some p =>
    rw [e] at z
    exact ⟨dd.typeIs, wpAny_getItem_heap (knd := nestedKind X.prog X.w) (show X.A.in1.units + 8 < cLine by show X.A.units + 1 + 8 < cLine; omega) hb dd e ⟨v, H2, I2.tok _, z, q2⟩⟩
theorem pc_ndnotin {P : Program} {w : World} (hP : X.prog = P) (hw : X.w = w) {o i : Expr} {td ty : TE} (hu : X.A.units + 64 < cLine) (hi : PE X i ty) (ho : PE X o td) : PC X .NotIn i o (tNNotIn P w ty td) := by
  subst hP hw
  constructor
  intro pins s σ H Q I h
  refine thn (hi.run pins s σ H _ I h) ?_
  rintro iv s1 ⟨y, H1, I1, ry, q1⟩
  refine thn (ho.run pins s1 σ H1 _ I1 q1) ?_
  rintro u s2 ⟨x, H2, I2, rx, a, xs, k, rfl, hn, hk, q2⟩
  obtain rfl : u = Value.ref a := rx
  obtain ⟨b, rfl, rfl, hb⟩ := nd_at I2 hk ry
  obtain ⟨_, hd, ys, r, dd⟩ := hn.full I2
  have z := (getN_rel (k := k) r).isSome_eq
  rw [Option.isSome_map] at z
  refine notIn_keyed (knd := nestedKind X.prog X.w) (show X.A.in1.units + 8 < cLine by show X.A.units + 1 + 8 < cLine; omega) hb hd ⟨ys, dd, rfl⟩ ⟨.bl (!(getN xs k).isSome), H2, I2.tok _, ?_, q2⟩
  rw [valueAt_pairsH, Option.isSome_map, ← z]
  rfl
theorem nd_write {pins : List (Addr × Obj)} {σ : L2.St} {H : Hp} {s : Shared} {a b : Addr} {xs : List NE} {ys : List (NestedKey × Addr × Value)} {k : NestedKey} {v : V} {r : Value} {h' : Heap} {tk : Nat} (I : Inv X pins σ H s) (hn : ND X.prog X.w H a xs) (hl : xs.length < sizeLine) (rel : NRel xs ys) (hd : (a == sysModules) = false)
    (h0 : atKey ys k = none) (rv : RelV v r) (dd : h'.DictOfH (nestedKind X.prog X.w) a (storedH ys k b r)) (hs : Heap.SameBut a s.heap h') : Inv X pins σ (upd H a (NDO X.prog X.w a (xs ++ [(k, b, v)]))) { s with heap := h', toks := tk } := by
  rw [storedH_new h0] at dd
  have he : ∃ o, h'.get? a = some o := dd.elim fun o z => ⟨o, z.choose_spec.choose_spec.1⟩
  refine d_write I (by rw [hn.ob]; exact True.intro) hs he (ndo_ok ?_ hd (awSnoc (F := fun (p : NE) (q : NestedKey × Addr × Value) => p.1 = q.1 ∧ p.2.1 = q.2.1 ∧ RelV p.2.2 q.2.2) ⟨rfl, rfl, rv⟩ rel) dd)
  rw [List.length_append]
  exact hl
theorem ps_ndput {P : Program} {w : World} (hP : X.prog = P) (hw : X.w = w) {o i value : Expr} {td ty tv : TE} {pos pos' : Pos} (hu : X.A.units + 64 < cLine) (ho : PE X o td) (hi : PE X i ty) (hv : PE X value tv) (hs : swapsWith value (some (.Subscript o i pos')) pos.line X.env = pure false) :
    PS X (.Assign [.Subscript o i pos'] value pos) (sNPut P w td ty tv) := by
  subst hP hw
  constructor
  intro pins s σ H D I h
  refine wpAny_Assign_Subscript (thn (hv.run pins s σ H _ I h) ?_) hs
  rintro r s1 ⟨v, H1, I1, rv, q1⟩
  refine thn (ho.run pins s1 σ H1 _ I1 q1) ?_
  rintro u s2 ⟨x, H2, I2, rx, q2⟩
  refine thn (hi.run pins s2 σ H2 _ I2 q2) ?_
  rintro iv s3 ⟨y, H3, I3, ry, a, xs, k, b, rfl, hn, rfl, hk, hg, hl, q3⟩
  obtain rfl : u = Value.ref a := rx
  obtain ⟨b', rfl, eb, hb⟩ := nd_at I3 hk ry
  obtain rfl : b = b' := V.ref.inj eb
  obtain ⟨_, hd, ys, rel, dd⟩ := hn.full I3
  have hz : ys.length ≤ sizeLine := by
    have := awLen rel
    omega
  exact wpAny_setItem_heap (knd := nestedKind X.prog X.w) (hsz := hz) (show X.A.in1.units + 8 < cLine by show X.A.units + 1 + 8 < cLine; omega) hb dd fun h' dd' hs' => ⟨σ, _, nd_write I3 hn hl rel hd (nrel_none rel hg) rv dd' hs', q3⟩
/-- {t: v} -/
def tNDisp (P : Program) (w : World) (tk tv : TE) : TE := fun σ H Q => ∀ p, H p = none → tk σ (upd H p (NDO P w p [])) fun x H1 => tv σ H1 fun v H2 => ∃ b k, x = .ref b ∧ KeyN H2 x k ∧ H2 p = some (NDO P w p []) ∧ Q (.ref p) (upd H2 p (NDO P w p [(k, b, v)]))
theorem pe_ndisp {P : Program} {w : World} (hP : X.prog = P) (hw : X.w = w) {ek ev : Expr} {tk tv : TE} {pos : Pos} (hu : X.A.units + 64 < cLine) (hk : PE X ek tk) (hv : PE X ev tv) : PE X (.Dict [some ek] [ev] pos) (tNDisp P w tk tv) := by
  subst hP hw
  constructor
  intro pins s σ H Q I q
  have hn := I.hok.fresh (Nat.le_refl s.heap.objs.size)
  have ok : ObjOk X.prog X.w (upd H s.heap.objs.size (NDO X.prog X.w s.heap.objs.size [])) (s.heap.push { cls := .type "dict", data := .dict #[] }) s.heap.objs.size (NDO X.prog X.w s.heap.objs.size []) :=
    ndo_ok (Nat.zero_le _) (beq_eq_false_iff_ne.mpr (Ne.symm (Nat.ne_of_lt I.big))) .nil (Heap.DictOfH.new s.heap)
  have I1 := I.laid (t' := s.toks) (fun _ _ z => Heap.get?_push_of_some _ z) (Nat.le_refl _) ok
  rw [arm_eval_Dict, zip_pairTrees [some ek] [ev] X.env pos rfl rfl, dictDisplay_pairs (pairTrees [some ek] [ev] X.env pos) (by simp [pairTrees]) (by simp [pairTrees])]
  apply wpAny_bind
  apply wpAny_standAt
  apply wpAny_bind
  refine wpAny_subDictH (knd := nestedKind X.prog X.w) (show X.A.units + 8 < cLine by omega) (by show 1 ≤ 15; decide) ?_
  refine thn ((pps_cons (pos := pos) hk hv pps_nil).run pins _ σ _ (fun ps H2 => match ps with | [(x, v)] => ∃ b k, x = .ref b ∧ KeyN H2 x k ∧ H2 s.heap.objs.size = some (NDO X.prog X.w s.heap.objs.size []) ∧ Q (.ref s.heap.objs.size) (upd H2 s.heap.objs.size (NDO X.prog X.w s.heap.objs.size [(k, b, v)])) | _ => False) I1 (q _ hn)) ?_
  rintro ws s2 ⟨ps, H2, I2, rel, hq⟩
  match ps, ws, rel, hq with
  | [(x, v)], [(u1, u2)], .cons ⟨r1, r2⟩ .nil, ⟨b, k, e, hk2, hp, q2⟩ =>
    subst e
    obtain ⟨b', rfl, eb, hb⟩ := nd_at I2 hk2 r1
    obtain rfl : b = b' := V.ref.inj eb
    have hN : ND X.prog X.w H2 s.heap.objs.size [] := ⟨hp, (fun _ z => nomatch z)⟩
    obtain ⟨_, hd, ys, r0, dd⟩ := hN.full I2
    cases r0
    refine ⟨[(k, b, u2)], ⟨rfl, rfl, hb, trivial⟩, dd, fun h' tk dd' hs => ?_⟩
    exact wpAny_pure ⟨.ref s.heap.objs.size, _, nd_write I2 hN (by show 0 < sizeLine; decide) .nil hd rfl r2 dd' hs, rfl, q2⟩
/-- len(d) -/
theorem call_lenN {P : Program} {w : World} (hP : X.prog = P) (hw : X.w = w) : CallR X (.builtin "len") (fun vs H Q => ∃ p xs, vs = [.ref p] ∧ ND P w H p xs ∧ Q (.int ((xs.length : Nat) : Int)) H) := by
  subst hP hw
  intro pins s σ H vs us Q I r h
  obtain ⟨p, xs, rfl, hn, q⟩ := h
  obtain ⟨u, rfl, ru⟩ := vals1 r
  obtain rfl : u = Value.ref p := ru
  obtain ⟨z, hd, ys, rel, dd⟩ := hn.full I
  have hl : xs.length = ys.length := awLen rel
  refine call_len_dictH hd dd (by rw [← hl]; rw [sizeLine_eq] at z; omega) ?_
  rw [← hl]
  exact ⟨.int _, H, I.tok _, ⟨_, rfl⟩, q⟩
/-- d.setdefault(k, v) -/
def rNSetd (P : Program) (w : World) : V → List V → Hp → VK → Prop := fun x vs H Q => ∃ a xs k b v, x = .ref a ∧ vs = [.ref b, v] ∧ ND P w H a xs ∧ KeyN H (.ref b) k ∧ xs.length < sizeLine ∧ (∀ y, getN xs k = some y → Q y H) ∧ (getN xs k = none → Q v (upd H a (NDO P w a (xs ++ [(k, b, v)]))))
theorem mt_nsetd (hu : X.A.units + 64 < cLine) : MtR X "dict.setdefault" (rNSetd X.prog X.w) := by
  intro pins s σ H x vs v us Q I rx rxs h
  obtain ⟨a, xs, k, b, v0, rfl, rfl, hn, hk, hl, q1, q2⟩ := h
  cases rx
  obtain ⟨u1, u2, rfl, r1, r2⟩ := vals2 rxs
  obtain ⟨b', rfl, eb, hb⟩ := nd_at I hk r1
  obtain rfl : b = b' := V.ref.inj eb
  obtain ⟨_, hd, ys, rel, dd⟩ := hn.full I
  have hz : ys.length ≤ sizeLine := by
    have := awLen rel
    omega
  have z := getN_rel (k := k) rel
  refine call_setdefault_heap (knd := nestedKind X.prog X.w) (hsz := hz) (show X.A.in1.units + 8 < cLine by show X.A.units + 1 + 8 < cLine; omega) hb hd dd (fun p hp => ?_) (fun h0 h' dd' hs => ?_)
  · rw [hp] at z
    cases e : getN xs k with
    | none => rw [e] at z; exact z.elim
    | some y =>
      rw [e] at z
      exact ⟨y, H, I.tok _, z, q1 y e⟩
  · rw [h0] at z
    cases e : getN xs k with
    | some y => rw [e] at z; exact z.elim
    | none => exact ⟨v0, _, nd_write I hn hl rel hd h0 r2 dd' hs, r2, q2 e⟩
def tNSetd (P : Program) (w : World) (to : TE) (t : TA) : TE := fun σ H Q => to σ H fun x H1 => (∃ a xs, x = V.ref a ∧ ND P w H1 a xs) ∧ t σ H1 fun vs H2 => rNSetd P w x vs H2 Q
theorem pe_nsetd {P : Program} {w : World} (hP : X.prog = P) (hw : X.w = w) {o e : Expr} {es : List Expr} {to : TE} {t : TA} {apos cpos : Pos} (hu : X.A.units + 64 < cLine) (ho : PE X o to) (ha : PA X (e :: es) t)
    (c1 : attributeBase o "setdefault" X.env (eval o X.env) = eval o X.env := by rfl)
    (c2 : ((backTo cpos (starEach (e :: es) X.env)).all (fun x => !x.1) && (backToKw cpos (keywordEach [] X.env)).all (fun x => x.1.isSome) && decide ((e :: es).length + ([] : List Keyword).length + (if ([] : List Keyword).isEmpty then 0 else 1) < 30)) = true := by rfl)
    (c3 : (apos.endLine == cpos.line) = true := by rfl) (c4 : starEach (e :: es) X.env = (false, eval e X.env) :: starEach es X.env := by rfl) (c5 : (backTo cpos (starEach es X.env)).any (·.1) = false := by rfl) :
    PE X (.Call (.Attribute o "setdefault" apos) (e :: es) [] cpos) (tNSetd P w to t) := by
  subst hP hw
  constructor
  intro pins s σ H Q I h
  refine wpAny_Call_method_late c1 c2 c3 rfl (thn (ho.run pins s σ H _ I h) ?_)
  rintro v s1 ⟨x, H1, I1, r1, ⟨a, xs, rfl, hn⟩, q1⟩
  cases r1
  obtain ⟨_, hd, ys, rel, dd⟩ := hn.full I1
  obtain ⟨ob, es', ep, g1, g2, _⟩ := id dd
  refine ⟨"dict", "dict.setdefault", F.plainAttrs_dict, F.slot_dict_setdefault, F.type_dict_setdefault, dd.typeIs, (fun z e => ⟨ob, by injection e with e; rw [← e]; exact g1, g2.2.1⟩), ?_⟩
  have hA := ha.run cpos pins s1 σ H1 _ I1 q1
  rw [c4] at hA ⊢
  refine Calls.callWith_builtin (by show (false || (backTo cpos (starEach es X.env)).any (·.1)) = false; rw [c5]; rfl) (Calls.evalArgs_plain ?_)
  exact thn hA fun us s2 ⟨vs, H2, I2, r2, q2⟩ => mt_nsetd hu pins s2 σ H2 (.ref a) vs (.ref a) us Q I2 rfl r2 q2
end nds
/-! ### the class Walk -/
abbrev sWalk___init__ : Stmt := inClass c_Walk 0
abbrev sWalk_meet : Stmt := inClass c_Walk 1
theorem scWi : FnScope ["self", "first"] ["self", "first"] (defScope sWalk___init__) := ⟨rfl, rfl, rfl, by decide +kernel, rfl, by decide +kernel, by decide +kernel⟩
theorem scWm : FnScope ["self", "thing", "ahead", "bits"] ["self", "thing", "ahead", "bits"] (defScope sWalk_meet) := ⟨rfl, rfl, rfl, by decide +kernel, rfl, by decide +kernel, by decide +kernel⟩
theorem w_mn : ¬ ("met" : Str) = "numbers" := by decide +kernel
theorem w_mw : ¬ ("met" : Str) = "ways" := by decide +kernel
theorem w_nw : ¬ ("numbers" : Str) = "ways" := by decide +kernel
def wF (M N W : Addr) : List (Str × V) := putF "ways" (.ref W) (putF "numbers" (.ref N) (putF "met" (.ref M) []))
theorem wF_met (M N W : Addr) : (wF M N W).lookup ("met" : Str) = some (.ref M) := by
  unfold wF
  rw [lookup_putF, if_neg w_mw, lookup_putF, if_neg w_mn, lookup_putF, if_pos rfl]
theorem wF_num (M N W : Addr) : (wF M N W).lookup ("numbers" : Str) = some (.ref N) := by
  unfold wF
  rw [lookup_putF, if_neg w_nw, lookup_putF, if_pos rfl]
theorem wF_ways (M N W : Addr) : (wF M N W).lookup ("ways" : Str) = some (.ref W) := by
  unfold wF
  rw [lookup_putF, if_pos rfl]
theorem wF_no (M N W : Addr) {m : Str} (h1 : ¬ m = "ways") (h2 : ¬ m = "numbers") (h3 : ¬ m = "met") : (wF M N W).lookup m = none := by
  unfold wF
  rw [lookup_putF, if_neg h1, lookup_putF, if_neg h2, lookup_putF, if_neg h3]
  rfl
theorem wF_meet (M N W : Addr) : (wF M N W).lookup ("meet" : Str) = none := wF_no M N W (by decide +kernel) (by decide +kernel) (by decide +kernel)
structure WCls (K : PySem.W.Frag) (mg : Str → Option Value) (C : Addr) : Prop where
  cl : Cls K C
  nM : NoAttr K C "met"
  nN : NoAttr K C "numbers"
  nW : NoAttr K C "ways"
  mgC : mg "Walk" = some (.ref C)
abbrev WT := NestedKey × Addr
def numE (ts : List WT) : List NE := ts.mapIdx fun i t => (t.1, t.2, .int (i : Nat))
theorem numE_snoc (ts : List WT) (t : WT) : numE (ts ++ [t]) = numE ts ++ [(t.1, t.2, .int (ts.length : Nat))] := by
  unfold numE
  rw [List.mapIdx_append]
  simp
theorem numE_len (ts : List WT) : (numE ts).length = ts.length := List.length_mapIdx ..
theorem numE_mem {ts : List WT} {e : NE} (h : e ∈ numE ts) : ∃ i t, ts[i]? = some t ∧ e = (t.1, t.2, .int (i : Nat)) := by
  obtain ⟨i, hi, rfl⟩ := List.mem_mapIdx.mp h
  exact ⟨i, ts[i], List.getElem?_eq_getElem hi, rfl⟩
theorem numE_none {ts : List WT} {k : NestedKey} (h : ∀ t ∈ ts, t.1 ≠ k) : getN (numE ts) k = none := by
  rw [getN_none]
  intro e he
  obtain ⟨i, t, ht, rfl⟩ := numE_mem he
  exact h t (List.mem_of_getElem? ht)
theorem numE_some {ts : List WT} {i : Nat} {k : NestedKey} {b : Addr} (nd : (ts.map (·.1)).Nodup) (h : ts[i]? = some (k, b)) : getN (numE ts) k = some (.int (i : Nat)) := by
  cases e : getN (numE ts) k with
  | none =>
    exfalso
    have hi := (List.getElem?_eq_some_iff.mp h).1
    have := getN_none.mp e (k, b, .int (i : Nat)) (List.mem_mapIdx.mpr ⟨i, hi, by rw [List.getElem?_eq_getElem hi] at h; rw [Option.some.inj h]⟩)
    exact this rfl
  | some v =>
    obtain ⟨c, hc⟩ := getN_some e
    obtain ⟨j, t, ht, he⟩ := numE_mem hc
    have e1 : t.1 = k := (Prod.mk.inj he).1.symm
    have e2 : v = .int (j : Nat) := (Prod.mk.inj (Prod.mk.inj he).2).2
    have ij : i = j := by
      have a1 : (ts.map (·.1))[i]? = some k := by rw [List.getElem?_map, h]; rfl
      have a2 : (ts.map (·.1))[j]? = some k := by rw [List.getElem?_map, ht, ← e1]; rfl
      exact (List.getElem?_inj (List.getElem?_eq_some_iff.mp a1).1 nd).mp (a1.trans a2.symm)
    rw [e2, ij]
abbrev WayAt (H : Hp) : List Addr → List (Int × List Int) → Prop := Paired fun q e => ∃ bb, H q = some (.tup [.int e.1, .ref bb]) ∧ H bb = some (.tup (e.2.map V.int))
structure WalkAt (P : Program) (w : World) (C : Addr) (H : Hp) (p M N W : Addr) (ts : List WT) (wy : List (Int × List Int)) : Prop where
  ob : ∃ dx, H p = some (.ins C dx (wF M N W))
  met : H M = some (.lst (ts.map fun t => V.ref t.2))
  num : ND P w H N (numE ts)
  ways : ∃ ws, H W = some (.lst (ws.map V.ref)) ∧ WayAt H ws wy
  nd : (ts.map (·.1)).Nodup
  keys : ∀ t ∈ ts, KeyN H (.ref t.2) t.1
  len : wy.length = ts.length
  nMW : M ≠ W
theorem keyn_stay {H H' : Hp} (t : TupsStay H H') {y : V} {k : NestedKey} (h : KeyN H y k) : KeyN H' y k := ⟨nk_stay t _ _ h.1, h.2⟩
theorem WalkAt.stay {C : Addr} {H H' : Hp} {p M N W : Addr} {ts : List WT} {wy : List (Int × List Int)} (h : WalkAt P w C H p M N W ts wy) (t : TupsStay H H') (k : ∀ c o, (c = p ∨ c = M ∨ c = N ∨ c = W) → H c = some o → H' c = some o) : WalkAt P w C H' p M N W ts wy := by
  obtain ⟨⟨dx, ob⟩, met, num, ⟨ws, e1, e2⟩, nd, keys, len, ne⟩ := h
  exact ⟨⟨dx, k _ _ (.inl rfl) ob⟩, k _ _ (.inr (.inl rfl)) met, nd_stay num (k _ _ (.inr (.inr (.inl rfl))) num.ob) t, ⟨ws, k _ _ (.inr (.inr (.inr rfl))) e1, awMap (fun q e z => z.elim fun bb y => ⟨bb, t _ _ y.1, t _ _ y.2⟩) e2⟩, nd, fun x hx => keyn_stay t (keys x hx), len, ne⟩
theorem WalkAt.same {C : Addr} {H H' : Hp} {p M N W : Addr} {ts : List WT} {wy : List (Int × List Int)} (h : WalkAt P w C H p M N W ts wy) (s : Same H H') : WalkAt P w C H' p M N W ts wy := h.stay (Same.tups s) fun c o _ e => s c o e
def spWi (P : Program) (w : World) (C : Addr) : Sp := fun vs H Q _ => ∃ (p dx b : Addr) (k : NestedKey), vs = [.ref p, .ref b] ∧ H p = some (.ins C dx []) ∧ KeyN H (.ref b) k ∧
  ∀ H' M N W, WalkAt P w C H' p M N W [(k, b)] [(0, [])] → H M = none → H N = none → H W = none → (∀ c o, c ≠ p → H c = some o → H' c = some o) → Q .non H'
theorem ok_wi {f C : Addr} {fd : FuncData} {k : Nat} (F : Fun K "__init__" "Walk.__init__" sWalk___init__ f fd) (T : WCls K mg C) : FnOk P w K mg base CX0 (k + 1) f fd ["self", "first"] (spWi P w C) := by
  refine F.ok scWi (fun vs H Q E h => ?_) (fun cdv A outer s H vs Q E hr h => ?_)
  · obtain ⟨p, dx, b, k, rfl, _⟩ := h
    rfl
  · obtain ⟨p, dx, b, key, rfl, hp, hk, q⟩ := h
    refine ⟨_, pss_cons (ps_fld (pv 0) (pe_lst (pa_cons (pv 1) pa_nil)) rfl)
      (pss_cons (ps_fld (pv 0) (pe_ndisp (P := P) (w := w) rfl rfl hr.units (pv 1) pe_int) rfl)
      (pss_one (ps_fld (pv 0) (pe_lst (pa_cons (pe_tup (pa_cons pe_int (pa_cons (pe_tup pa_nil) pa_nil))) pa_nil)) rfl))), ?_⟩
    refine ⟨.ref b, rfl, by show 1 ≤ sizeLine; decide, fun M hM => ?_⟩
    have sM := same_new (o := .lst [.ref b]) hM
    have npM : p ≠ M := ne_of_none hp hM
    refine ⟨.ref p, rfl, p, C, dx, [], rfl, sM _ _ hp, T.cl, T.nM, (by show 0 < 1000; decide), ?_⟩
    -- the heap with met
    have t1 : TupsStay H (upd (upd H M (.lst [.ref b])) p (.ins C dx (putF "met" (.ref M) []))) := fun c xs e => by
      rw [upd_ne (ne_of e hp (fun z => nomatch z))]
      exact sM _ _ e
    have k1 : ∀ c o, c ≠ p → H c = some o → upd (upd H M (.lst [.ref b])) p (.ins C dx (putF "met" (.ref M) [])) c = some o := fun c o n e => by
      rw [upd_ne n]
      exact sM _ _ e
    have ep1 : upd (upd H M (.lst [.ref b])) p (.ins C dx (putF "met" (.ref M) [])) p = some (.ins C dx (putF "met" (.ref M) [])) := upd_same
    have eM1 : upd (upd H M (.lst [.ref b])) p (.ins C dx (putF "met" (.ref M) [])) M = some (.lst [.ref b]) := by
      rw [upd_ne npM.symm]
      exact upd_same
    generalize upd (upd H M (.lst [.ref b])) p (.ins C dx (putF "met" (.ref M) [])) = H1 at t1 k1 ep1 eM1
    intro N hN
    have sN := same_new (o := NDO P w N []) hN
    have npN : p ≠ N := ne_of_none ep1 hN
    have nMN : M ≠ N := ne_of_none eM1 hN
    refine ⟨.ref b, rfl, b, key, rfl, keyn_stay (t1.trans (Same.tups sN)) hk, upd_same, ?_⟩
    rw [upd_upd]
    have sN2 := same_new (o := NDO P w N [(key, b, .int 0)]) hN
    refine ⟨.ref p, rfl, p, C, dx, _, rfl, sN2 _ _ ep1, T.cl, T.nN, (by show 1 < 1000; decide), ?_⟩
    have k2 : ∀ c o, c ≠ p → H1 c = some o → upd (upd H1 N (NDO P w N [(key, b, .int 0)])) p (.ins C dx (putF "numbers" (.ref N) (putF "met" (.ref M) []))) c = some o := fun c o n e => by
      rw [upd_ne n]
      exact sN2 _ _ e
    have t2 : TupsStay H1 (upd (upd H1 N (NDO P w N [(key, b, .int 0)])) p (.ins C dx (putF "numbers" (.ref N) (putF "met" (.ref M) [])))) := fun c xs e => k2 c _ (ne_of e ep1 (fun z => nomatch z)) e
    have ep2 : upd (upd H1 N (NDO P w N [(key, b, .int 0)])) p (.ins C dx (putF "numbers" (.ref N) (putF "met" (.ref M) []))) p = some (.ins C dx (putF "numbers" (.ref N) (putF "met" (.ref M) []))) := upd_same
    have eN2 : upd (upd H1 N (NDO P w N [(key, b, .int 0)])) p (.ins C dx (putF "numbers" (.ref N) (putF "met" (.ref M) []))) N = some (NDO P w N [(key, b, .int 0)]) := by
      rw [upd_ne npN.symm]
      exact upd_same
    generalize upd (upd H1 N (NDO P w N [(key, b, .int 0)])) p (.ins C dx (putF "numbers" (.ref N) (putF "met" (.ref M) []))) = H2 at k2 t2 ep2 eN2
    have eM2 := k2 _ _ npM.symm eM1
    refine ⟨by show 0 ≤ sizeLine; decide, fun E0 hE0 => ⟨by show 2 ≤ sizeLine; decide, fun T0 hT0 => ⟨by show 1 ≤ sizeLine; decide, fun W hW => ?_⟩⟩⟩
    have s1 := same_new (o := .tup []) hE0
    have s2 := same_new (o := .tup [.int 0, .ref E0]) hT0
    have s3 := same_new (o := .lst [.ref T0]) hW
    have s123 := (s1.trans s2).trans s3
    have npW : p ≠ W := ne_of_none ((s1.trans s2) _ _ ep2) hW
    have nMW : M ≠ W := ne_of_none ((s1.trans s2) _ _ eM2) hW
    have nNW : N ≠ W := ne_of_none ((s1.trans s2) _ _ eN2) hW
    refine ⟨.ref p, rfl, p, C, dx, _, rfl, s123 _ _ ep2, T.cl, T.nW, (by show 2 < 1000; decide), ?_⟩
    have k3 : ∀ c o, c ≠ p → H2 c = some o → upd (upd (upd (upd H2 E0 (.tup [])) T0 (.tup [.int 0, .ref E0])) W (.lst [.ref T0])) p (.ins C dx (putF "ways" (.ref W) (putF "numbers" (.ref N) (putF "met" (.ref M) [])))) c = some o := fun c o n e => by
      rw [upd_ne n]
      exact s123 _ _ e
    have t3 : TupsStay H2 (upd (upd (upd (upd H2 E0 (.tup [])) T0 (.tup [.int 0, .ref E0])) W (.lst [.ref T0])) p (.ins C dx (putF "ways" (.ref W) (putF "numbers" (.ref N) (putF "met" (.ref M) []))))) := fun c xs e => k3 c _ (ne_of e ep2 (fun z => nomatch z)) e
    have tA := (t1.trans t2).trans t3
    refine q _ M N W ⟨⟨dx, upd_same⟩, k3 _ _ npM.symm eM2, ⟨k3 _ _ npN.symm eN2, fun e he => ?_⟩, ⟨[T0], ?_, .cons ⟨E0, ?_, ?_⟩ .nil⟩, by simp, fun x hx => ?_, rfl, nMW⟩ hM ?_ ?_ fun c o n e => k3 c o n (k2 c o n (k1 c o n e))
    · rw [List.mem_singleton.mp he]
      exact ⟨nk_stay tA _ _ hk.1, hk.2.1⟩
    · rw [upd_ne npW.symm]
      exact upd_same
    · have : T0 ≠ p := fun z => by rw [z] at hT0; rw [s1 _ _ ep2] at hT0; cases hT0
      rw [upd_ne this]
      exact s3 _ _ upd_same
    · have : E0 ≠ p := fun z => by rw [z, ep2] at hE0; cases hE0
      rw [upd_ne this]
      exact s3 _ _ (s2 _ _ upd_same)
    · rw [List.mem_singleton.mp hx]
      exact keyn_stay tA hk
    · cases e : H N with
      | none => rfl
      | some o =>
        by_cases z : N = p
        · exact absurd z npN.symm
        · rw [k1 _ _ z e] at hN
          cases hN
    · cases e : H W with
      | none => rfl
      | some o =>
        by_cases z : W = p
        · exact absurd z npW.symm
        · rw [(s1.trans s2) _ _ (k2 _ _ z (k1 _ _ z e))] at hW
          cases hW
def spWm (P : Program) (w : World) (C : Addr) : Sp := fun vs H Q _ => ∃ (p M N W b bb : Addr) (ts : List WT) (wy : List (Int × List Int)) (k : NestedKey) (ah : Int) (bs : List Int), vs = [.ref p, .ref b, .int ah, .ref bb] ∧ WalkAt P w C H p M N W ts wy ∧ KeyN H (.ref b) k ∧ H bb = some (.tup (bs.map V.int)) ∧ ts.length ≤ 1000000 ∧
  ∀ H' ts' wy' i, WalkAt P w C H' p M N W ts' wy' → (∃ b', ts'[i]? = some (k, b')) → ((ts' = ts ∧ wy' = wy) ∨ (ts' = ts ++ [(k, b)] ∧ wy' = wy ++ [(ah, bs)] ∧ i = ts.length ∧ ∀ t ∈ ts, t.1 ≠ k)) → (∀ c o, c ≠ M → c ≠ N → c ≠ W → H c = some o → H' c = some o) → Q (.int (i : Nat)) H'
theorem ok_wm {f C : Addr} {fd : FuncData} {k : Nat} (F : Fun K "meet" "Walk.meet" sWalk_meet f fd) (T : WCls K mg C) (mn : mg "len" = none) : FnOk P w K mg base CX0 (k + 1) f fd ["self", "thing", "ahead", "bits"] (spWm P w C) := by
  refine F.ok scWm (fun vs H Q E h => ?_) (fun cdv A outer s H vs Q E hr h => ?_)
  · obtain ⟨p, M, N, W, b, bb, ts, wy, k, ah, bs, rfl, _⟩ := h
    rfl
  · obtain ⟨p, M, N, W, b, bb, ts, wy, key, ah, bs, rfl, hw, hk, hbb, hl, q⟩ := h
    refine ⟨_, pss_mid (ps_if (pt_cmp (pc_ndnotin (P := P) (w := w) rfl rfl hr.units (pv 1) (pe_fld (pv 0) rfl)))
        (pss_cons (ps_ndput (P := P) (w := w) rfl rfl hr.units (pe_fld (pv 0) rfl) (pv 1) (pe_callB call_len_seq (by rfl) mn PySem.boot_len (pa_cons (pe_fld (pv 0) rfl) pa_nil)) rfl)
        (pss_cons (ps_expr (pe_bm PySem.F.plainAttrs_list PySem.F.slot_list_append PySem.F.type_list_append mt_append (pe_fld (pv 0) rfl) (pa_cons (pv 1) pa_nil)))
        (pss_one (ps_expr (pe_bm PySem.F.plainAttrs_list PySem.F.slot_list_append PySem.F.type_list_append mt_append (pe_fld (pv 0) rfl) (pa_cons (pe_tup (pa_cons (pv 2) (pa_cons (pv 3) pa_nil))) pa_nil)))))) pss_nil)
      (pss_one (ps_ret (pe_ndget (P := P) (w := w) rfl rfl hr.units (pe_fld (pv 0) rfl) (pv 1) (fun _ _ => rfl)))), ?_⟩
    obtain ⟨⟨dx, ob⟩, met, num, ⟨ws, ways, wat⟩, nd, keys, len, nMW⟩ := id hw
    have npM : p ≠ M := ne_of ob met (fun z => nomatch z)
    have npN : p ≠ N := ne_of ob num.ob (fun z => nomatch z)
    have npW : p ≠ W := ne_of ob ways (fun z => nomatch z)
    have nMN : M ≠ N := ne_of met num.ob (fun z => nomatch z)
    have nNW : N ≠ W := ne_of num.ob ways (fun z => nomatch z)
    have sl : (1000000 : Nat) < sizeLine := by rw [sizeLine_eq]; decide
    refine ⟨fun σ2 H2 => ∃ ts' wy' i, σ2 = [some (.ref p), some (.ref b), some (.int ah), some (.ref bb)] ∧ WalkAt P w C H2 p M N W ts' wy' ∧ (∃ b', ts'[i]? = some (key, b')) ∧ ((ts' = ts ∧ wy' = wy) ∨ (ts' = ts ++ [(key, b)] ∧ wy' = wy ++ [(ah, bs)] ∧ i = ts.length ∧ ∀ t ∈ ts, t.1 ≠ key)) ∧ (∀ c o, c ≠ M → c ≠ N → c ≠ W → H c = some o → H2 c = some o), ?_, ?_⟩
    · refine ⟨.ref b, rfl, .ref p, rfl, p, C, dx, _, _, rfl, ob, T.cl, T.nN, wF_num _ _ _, N, _, key, rfl, num, hk, _, rfl, ?_⟩
      cases e : getN (numE ts) key with
      | some v =>
        refine iteF ?_
        obtain ⟨c, hc⟩ := getN_some e
        obtain ⟨i, t, ht, he⟩ := numE_mem hc
        have e1 : t.1 = key := (Prod.mk.inj he).1.symm
        exact ⟨ts, wy, i, rfl, hw, ⟨t.2, by rw [ht, ← e1]⟩, .inl ⟨rfl, rfl⟩, fun c o _ _ _ z => z⟩
      | none =>
        refine iteT ?_
        have fresh : ∀ t ∈ ts, t.1 ≠ key := fun t ht z => by
          obtain ⟨i, hi⟩ := List.mem_iff_getElem?.mp ht
          have : ts[i]? = some (key, t.2) := by rw [hi, ← z]
          rw [numE_some nd this] at e
          cases e
        have nl : (numE ts).length < sizeLine := by rw [numE_len]; omega
        refine ⟨.ref p, rfl, p, C, dx, _, _, rfl, ob, T.cl, T.nM, wF_met _ _ _, M, _, rfl, .inl (.inl (.inl met)), .ref p, rfl, p, C, dx, _, _, rfl, ob, T.cl, T.nN, wF_num _ _ _, .ref b, rfl, N, _, key, b, rfl, num, rfl, hk, e, nl, ?_⟩
        have ml : ((ts.map fun t => V.ref t.2).length : Int) = ((ts.length : Nat) : Int) := by rw [List.length_map]
        rw [ml]
        have num1 := nd_put (v := .int ((ts.length : Nat) : Int)) num hk
        rw [← numE_snoc ts (key, b)] at num1 ⊢
        have k1 : ∀ c o, c ≠ N → H c = some o → upd H N (NDO P w N (numE (ts ++ [(key, b)]))) c = some o := fun c o n z => by
          rw [upd_ne n]
          exact z
        have t1 : TupsStay H (upd H N (NDO P w N (numE (ts ++ [(key, b)])))) := fun c xs z => k1 c _ (ne_of z num.ob (fun y => nomatch y)) z
        generalize upd H N (NDO P w N (numE (ts ++ [(key, b)]))) = H1 at num1 k1 t1
        have ob1 := k1 _ _ npN ob
        have met1 := k1 _ _ nMN met
        refine ⟨.ref p, rfl, p, C, dx, _, _, rfl, ob1, T.cl, T.nM, wF_met _ _ _, .inl ⟨rfl, _, .inl (.inl met1)⟩, .ref b, rfl, M, _, _, rfl, rfl, met1, ?_, ?_⟩
        · rw [List.length_map]
          omega
        have e2 : (ts.map fun t => V.ref t.2) ++ [V.ref b] = (ts ++ [(key, b)]).map fun t => V.ref t.2 := by rw [List.map_append]; rfl
        rw [e2]
        have k2 : ∀ c o, c ≠ M → H1 c = some o → upd H1 M (.lst ((ts ++ [(key, b)]).map fun t => V.ref t.2)) c = some o := fun c o n z => by
          rw [upd_ne n]
          exact z
        have t2 : TupsStay H1 (upd H1 M (.lst ((ts ++ [(key, b)]).map fun t => V.ref t.2))) := fun c xs z => k2 c _ (ne_of z met1 (fun y => nomatch y)) z
        have met2 : upd H1 M (.lst ((ts ++ [(key, b)]).map fun t => V.ref t.2)) M = some (.lst ((ts ++ [(key, b)]).map fun t => V.ref t.2)) := upd_same
        generalize upd H1 M (.lst ((ts ++ [(key, b)]).map fun t => V.ref t.2)) = H2 at k2 t2 met2
        have ob2 := k2 _ _ npM ob1
        have ways2 := k2 _ _ nMW.symm (k1 _ _ nNW.symm ways)
        refine ⟨.ref p, rfl, p, C, dx, _, _, rfl, ob2, T.cl, T.nW, wF_ways _ _ _, .inl ⟨rfl, _, .inl (.inl ways2)⟩, .int ah, rfl, .ref bb, rfl, by show 2 ≤ sizeLine; decide, fun U hU => ?_⟩
        have sU := same_new (o := .tup [.int ah, .ref bb]) hU
        have wl := awLen wat
        refine ⟨W, _, _, rfl, rfl, sU _ _ ways2, ?_, ?_⟩
        · rw [List.length_map]
          omega
        have e3 : ws.map V.ref ++ [V.ref U] = (ws ++ [U]).map V.ref := by rw [List.map_append]; rfl
        rw [e3]
        have k3 : ∀ c o, c ≠ W → H2 c = some o → upd (upd H2 U (.tup [.int ah, .ref bb])) W (.lst ((ws ++ [U]).map V.ref)) c = some o := fun c o n z => by
          rw [upd_ne n]
          exact sU _ _ z
        have t3 : TupsStay H2 (upd (upd H2 U (.tup [.int ah, .ref bb])) W (.lst ((ws ++ [U]).map V.ref))) := fun c xs z => k3 c _ (ne_of z ways2 (fun y => nomatch y)) z
        have tA := (t1.trans t2).trans t3
        have nUW : U ≠ W := fun z => by rw [z, ways2] at hU; cases hU
        have eU3 : upd (upd H2 U (.tup [.int ah, .ref bb])) W (.lst ((ws ++ [U]).map V.ref)) U = some (.tup [.int ah, .ref bb]) := by
          rw [upd_ne nUW]
          exact upd_same
        have eW3 : upd (upd H2 U (.tup [.int ah, .ref bb])) W (.lst ((ws ++ [U]).map V.ref)) W = some (.lst ((ws ++ [U]).map V.ref)) := upd_same
        generalize upd (upd H2 U (.tup [.int ah, .ref bb])) W (.lst ((ws ++ [U]).map V.ref)) = H3 at k3 t3 tA eU3 eW3
        refine ⟨ts ++ [(key, b)], wy ++ [(ah, bs)], ts.length, rfl, ⟨⟨dx, k3 _ _ npW ob2⟩, k3 _ _ nMW met2, nd_stay num1 (k3 _ _ nNW (k2 _ _ nMN.symm num1.ob)) (t2.trans t3), ⟨ws ++ [U], eW3, ?_⟩, ?_, fun x hx => ?_, ?_, nMW⟩, ⟨b, ?_⟩, .inr ⟨rfl, rfl, rfl, fresh⟩, fun c o n1 n2 n3 z => k3 _ _ n3 (k2 _ _ n1 (k1 _ _ n2 z))⟩
        · exact awSnoc (F := fun (q : Addr) (e : Int × List Int) => ∃ bb, H3 q = some (.tup [.int e.1, .ref bb]) ∧ H3 bb = some (.tup (e.2.map V.int))) ⟨bb, eU3, tA _ _ hbb⟩ (awMap (fun q e z => z.elim fun bb y => ⟨bb, tA _ _ y.1, tA _ _ y.2⟩) wat)
        · rw [List.map_append, List.nodup_append]
          refine ⟨nd, by simp, fun x hx y hy => ?_⟩
          obtain ⟨t, ht, rfl⟩ := List.mem_map.mp hx
          rw [List.mem_singleton.mp hy]
          exact fresh t ht
        · rcases List.mem_append.mp hx with hx | hx
          · exact keyn_stay tA (keys x hx)
          · rw [List.mem_singleton.mp hx]
            exact keyn_stay tA hk
        · rw [List.length_append, List.length_append, len]
          rfl
        · rw [List.getElem?_append_right (Nat.le_refl _), Nat.sub_self]
          rfl
    · rintro σ2 H2 ⟨ts', wy', i, rfl, hw2, ⟨b', hb'⟩, hcase, kp⟩
      obtain ⟨⟨dx2, ob2⟩, _, num2, _, nd2, _⟩ := id hw2
      have tS : TupsStay H H2 := fun c xs z => kp c _ (ne_of z met (fun y => nomatch y)) (ne_of z num.ob (fun y => nomatch y)) (ne_of z ways (fun y => nomatch y)) z
      exact ⟨.ref p, rfl, p, C, dx2, _, _, rfl, ob2, T.cl, T.nN, wF_num _ _ _, .ref b, rfl, N, _, key, .int (i : Nat), rfl, num2, keyn_stay tS hk, numE_some nd2 hb', q H2 ts' wy' i hw2 ⟨b', hb'⟩ hcase kp⟩
/-! ### list(zip(a, b)) of two lists -/
section lz
variable {A : Around} {E : Value → Shared → Prop} {s : Shared}
abbrev IsZ (h : Heap) (z TI TO : Addr) (f0 : Value) (b : Bool) : Prop := h.get? z = some { cls := .type "zip", dict := none, data := .fields #[f0, .bool b, .bool false, .ref TI, .ref TO], slots := #[] }
theorem z_free {z TI TO T : Addr} {f : Bool} {oT : Obj} {Q : Bool → Shared → Prop} (hz : IsZ s.heap z TI TO (rawInt T) f) (hT : s.heap.get? T = some oT) (q : ∀ h', IsZ h' z TI TO (rawInt T) true → Heap.SameBut z s.heap h' → Q false { s with heap := h' }) :
    wpAny (model P w) A (Builtin.SmallTypes.ownedTupleIsFree (.ref z)) Q E s := by
  unfold Builtin.SmallTypes.ownedTupleIsFree
  apply wpAny_bind
  refine wpAny_field hz rfl (x := rawInt T) rfl ?_
  show wpAny _ _ (loadIfAlive ((T : Int).toNat) >>= _) _ _ _
  rw [Int.toNat_natCast]
  apply wpAny_bind
  refine PySem.W.kdx_alive hT ?_
  simp only [Option.isNone_some, Bool.false_eq_true, if_false]
  apply wpAny_bind
  refine wpAny_field hz rfl (x := .bool f) rfl ?_
  cases f with
  | true =>
    rw [if_neg (show ¬ ((Value.bool true != Value.bool true) = true) from Bool.false_ne_true)]
    exact wpAny_pure (q s.heap hz (Heap.SameBut.refl _ _))
  | false =>
    rw [if_pos (show (Value.bool false != Value.bool true) = true from rfl)]
    apply wpAny_bind
    exact wpAny_setField_rec hz (by simp) fun h' hz' hs' => wpAny_pure (q h' hz' hs')
theorem z_next_out {z TI TO i1 i2 l1 l2 T : Addr} {k1 k2 : Nat} {xs ys : Array Value} {x y : Value} {f : Bool} {oT : Obj} {Q : Value → Shared → Prop} (D : ZipApart z TI TO i1 i2 l1 l2) (hz : IsZ s.heap z TI TO (rawInt T) f) (hT : s.heap.get? T = some oT)
    (hTI : IsPair s.heap TI (.ref i1) (.ref i2)) (h1 : s.heap.IsListIter i1 l1 k1) (h2 : s.heap.IsListIter i2 l2 k2) (hl1 : s.heap.IsList l1 xs) (hl2 : s.heap.IsList l2 ys) (hx : xs[k1]? = some x) (hy : ys[k2]? = some y)
    (q : ∀ h', IsZ h' z TI TO (rawInt T) true → h'.IsListIter i1 l1 (k1 + 1) → h'.IsListIter i2 l2 (k2 + 1) → IsPair h' s.heap.objs.size x y → h'.objs.size = s.heap.objs.size + 1 → (∀ c o, c ≠ z → c ≠ i1 → c ≠ i2 → s.heap.get? c = some o → h'.get? c = some o) → Q (.ref s.heap.objs.size) { s with heap := h' }) :
    wpAny (model P w) A (Builtin.«zip.__next__» ⟨[.ref z], []⟩) (fun fin s' => ∃ v, fin = .done (.ret v) ∧ Q v s') E s := by
  show wpAny _ _ (field (.ref z) 2 >>= _) _ _ _
  apply wpAny_bind
  refine wpAny_field hz rfl (x := .bool false) rfl ?_
  show wpAny _ _ (field (.ref z) 3 >>= _) _ _ _
  apply wpAny_bind
  refine wpAny_field hz rfl (x := .ref TI) rfl ?_
  apply wpAny_bind
  refine wpAny_seqItems hTI rfl ?_
  show wpAny _ _ (Builtin.SmallTypes.ownedTupleIsFree (.ref z) >>= _) _ _ _
  apply wpAny_bind
  refine z_free hz hT fun h₁ hz₁ hs₁ => ?_
  simp only [Bool.false_eq_true, if_false]
  apply wpAny_bind
  simp only [← Array.forIn_toList, List.forIn_cons, List.forIn_nil]
  apply wpAny_bind
  apply wpAny_bind
  apply wpAny_holding
  show wpAny _ _ (Builtin.SmallTypes.nextOf (.ref i1) >>= _) _ _ _
  apply wpAny_bind
  refine wpAny_nextOf_list_item (h1.extBut hs₁.extBut D.i1z) (hl1.extBut hs₁.extBut D.l1z) hx fun h₂ h1₂ hs₂ => wpAny_pure ?_
  refine wpAny_pure ?_
  apply wpAny_bind
  apply wpAny_bind
  apply wpAny_holding
  show wpAny _ _ (Builtin.SmallTypes.nextOf (.ref i2) >>= _) _ _ _
  apply wpAny_bind
  refine wpAny_nextOf_list_item ((h2.extBut hs₁.extBut D.i2z).extBut hs₂.extBut D.i12.symm) ((hl2.extBut hs₁.extBut D.l2z).extBut hs₂.extBut D.l2i1) hy fun h₃ h2₃ hs₃ => wpAny_pure ?_
  refine wpAny_pure (wpAny_pure ?_)
  have hsz : h₃.objs.size = s.heap.objs.size := by rw [hs₃.1, hs₂.1, hs₁.1]
  apply wpAny_bind
  refine wpAny_newTuple ?_ (by show 2 ≤ sizeLine; decide)
  have z3 : IsZ h₃ z TI TO (rawInt T) true := hs₃.extBut _ _ D.i2z.symm (hs₂.extBut _ _ D.i1z.symm hz₁)
  refine wpAny_pure ⟨_, rfl, ?_⟩
  show Q (.ref h₃.objs.size) _
  rw [hsz]
  refine q _ (Heap.get?_push_of_some _ z3) ((h1₂.extBut hs₃.extBut D.i12).at fun o e => Heap.get?_push_of_some _ e) (h2₃.at fun o e => Heap.get?_push_of_some _ e) ?_ ?_ fun c o c1 c2 c3 e => Heap.get?_push_of_some _ (hs₃.extBut _ _ c3 (hs₂.extBut _ _ c2 (hs₁.extBut _ _ c1 e)))
  · rw [← hsz]
    exact Heap.get?_push_size _ rfl
  · rw [Heap.size_push, hsz]
theorem z_pyNext_out {z TI TO i1 i2 l1 l2 T : Addr} {k1 k2 : Nat} {xs ys : Array Value} {x y : Value} {f : Bool} {oT : Obj} {Q : Option Value → Shared → Prop} (D : ZipApart z TI TO i1 i2 l1 l2) (hz : IsZ s.heap z TI TO (rawInt T) f) (hT : s.heap.get? T = some oT)
    (hTI : IsPair s.heap TI (.ref i1) (.ref i2)) (h1 : s.heap.IsListIter i1 l1 k1) (h2 : s.heap.IsListIter i2 l2 k2) (hl1 : s.heap.IsList l1 xs) (hl2 : s.heap.IsList l2 ys) (hx : xs[k1]? = some x) (hy : ys[k2]? = some y)
    (q : ∀ h', IsZ h' z TI TO (rawInt T) true → h'.IsListIter i1 l1 (k1 + 1) → h'.IsListIter i2 l2 (k2 + 1) → IsPair h' s.heap.objs.size x y → h'.objs.size = s.heap.objs.size + 1 → (∀ c o, c ≠ z → c ≠ i1 → c ≠ i2 → s.heap.get? c = some o → h'.get? c = some o) → Q (some (.ref s.heap.objs.size)) { s with heap := h' }) :
    wpAny (model P w) A (pyNext (.ref z)) Q E s := by
  have ty : s.TypeIs (.ref z) "zip" := ⟨_, hz, rfl⟩
  unfold pyNext
  apply wpAny_bind
  apply wpAny_attempt
  refine wpAny_callSpecial?_slot (name := Str.ofString "__next__") ty F.slot_zip_next ?_
  refine wpAny_call_entry F.slot_zip_next ty F.entry_zip_next ?_ (F.args_zip_next_1 _)
  exact z_next_out D hz hT hTI h1 h2 hl1 hl2 hx hy fun h' a1 a2 a3 a4 a5 a6 => wpAny_pure (q h' a1 a2 a3 a4 a5 a6)
theorem z_end_out {z TI TO i1 i2 l1 l2 T : Addr} {k1 : Nat} {xs : Array Value} {f : Bool} {oT : Obj} {Q : Option Value → Shared → Prop} (hh : A.handled = none) (D : ZipApart z TI TO i1 i2 l1 l2) (hz : IsZ s.heap z TI TO (rawInt T) f) (hT : s.heap.get? T = some oT)
    (hTI : IsPair s.heap TI (.ref i1) (.ref i2)) (h1 : s.heap.IsListIter i1 l1 k1) (hl1 : s.heap.IsList l1 xs) (hx : xs[k1]? = none)
    (q : ∀ h', (∀ c o, c ≠ z → c ≠ i1 → s.heap.get? c = some o → h'.get? c = some o) → Q none { s with heap := h' }) :
    wpAny (model P w) A (pyNext (.ref z)) Q E s := by
  have ty : s.TypeIs (.ref z) "zip" := ⟨_, hz, rfl⟩
  unfold pyNext
  apply wpAny_bind
  apply wpAny_attempt
  refine wpAny_callSpecial?_slot (name := Str.ofString "__next__") ty F.slot_zip_next ?_
  refine wpAny_call_entry F.slot_zip_next ty F.entry_zip_next ?_ (F.args_zip_next_1 _)
  show wpAny _ _ (field (.ref z) 2 >>= _) _ _ _
  apply wpAny_bind
  refine wpAny_field hz rfl (x := .bool false) rfl ?_
  show wpAny _ _ (field (.ref z) 3 >>= _) _ _ _
  apply wpAny_bind
  refine wpAny_field hz rfl (x := .ref TI) rfl ?_
  apply wpAny_bind
  refine wpAny_seqItems hTI rfl ?_
  show wpAny _ _ (Builtin.SmallTypes.ownedTupleIsFree (.ref z) >>= _) _ _ _
  apply wpAny_bind
  refine z_free hz hT fun h₁ hz₁ hs₁ => ?_
  simp only [Bool.false_eq_true, if_false]
  apply wpAny_bind
  simp only [← Array.forIn_toList, List.forIn_cons, List.forIn_nil]
  apply wpAny_bind
  apply wpAny_bind
  apply wpAny_holding
  show wpAny _ _ (Builtin.SmallTypes.nextOf (.ref i1) >>= _) _ _ _
  apply wpAny_bind
  refine wpAny_nextOf_list_end hh (h1.extBut hs₁.extBut D.i1z) (hl1.extBut hs₁.extBut D.l1z) hx fun h₂ e hs₂ he => ?_
  obtain ⟨o, ho, hc⟩ := he
  apply wpAny_bind
  refine wpAny_isInstance (T := "StopIteration") (b := true) ⟨o, ho, hc⟩ isSubtype_stop ?_
  exact wpAny_pure (q h₂ fun c o c1 c2 e => hs₂ c o c2 (hs₁.extBut c o c1 e))
/-- the pairs that were made -/
structure MadeZ (xs ys : Array Value) (lo : Addr) (h : Heap) (as : List Addr) : Prop where
  rise : as.Pairwise (· < ·)
  above : ∀ a ∈ as, lo < a
  pairs : ∀ (j : Nat) a, as[j]? = some a → ∃ x y, xs[j]? = some x ∧ ys[j]? = some y ∧ IsPair h a x y
/-- where the zip stands -/
def ZAt (h : Heap) (z TI TO i1 i2 : Addr) (l1 l2 : Addr) (i : Nat) (as : List Addr) : Prop := IsPair h TI (.ref i1) (.ref i2) ∧ (∃ a b, IsPair h TO a b) ∧ h.IsListIter i1 l1 i ∧ h.IsListIter i2 l2 i ∧
  ((i = 0 ∧ IsZ h z TI TO .none false) ∨ ∃ T f, T ∈ as ∧ IsZ h z TI TO (rawInt T) f)
theorem z_loop {S z TI TO i1 i2 l1 l2 : Addr} {xs ys : Array Value} (hh : A.handled = none) (D : ZipApart z TI TO i1 i2 l1 l2) (hxy : xs.size = ys.size) (hSz : S ≠ z) (hSI : S ≠ TI) (hSO : S ≠ TO) (hS1 : S ≠ i1) (hS2 : S ≠ i2) (hSa : S ≠ l1) (hSb : S ≠ l2)
    (lo : Addr) (hlo : z ≤ lo ∧ TI ≤ lo ∧ TO ≤ lo ∧ i1 ≤ lo ∧ i2 ≤ lo ∧ S ≤ lo) (hn : xs.size ≤ sizeLine) (res : Value) {h₁ : Heap} {R : Result → Shared → Prop}
    (hR : ∀ h' tk acc c as, (∀ b o, b ≠ S → b ≠ z → b ≠ TO → b ≠ i1 → b ≠ i2 → h₁.get? b = some o → h'.get? b = some o) → h'.get? S = some { cls := .type "list", dict := none, data := .seq acc c, slots := #[] } → as.length = xs.size → MadeZ xs ys lo h' as →
      acc.toList = as.map Value.ref → R (.ok (.ret res)) { s with heap := h', toks := tk }) :
    ∀ (k i : Nat) (h : Heap) (tk c : Nat) (acc : Array Value) (as : List Addr), xs.size - i = k → i ≤ xs.size → ZAt h z TI TO i1 i2 l1 l2 i as → h.IsList l1 xs → h.IsList l2 ys → (∀ b o, b ≠ S → b ≠ z → b ≠ TO → b ≠ i1 → b ≠ i2 → h₁.get? b = some o → h.get? b = some o) →
      h.get? S = some { cls := .type "list", dict := none, data := .seq acc c, slots := #[] } → acc.toList = as.map Value.ref → as.length = i → MadeZ xs ys lo h as → lo < h.objs.size →
      codeAny (model P w) A (.builtin "list.extend.loop" ⟨[.ref S, .ref z, res], []⟩) R { s with heap := h, toks := tk } := by
  have far : ∀ u : Addr, lo < u → u ≠ z ∧ u ≠ TO ∧ u ≠ i1 ∧ u ≠ i2 ∧ u ≠ S := fun u hu => ⟨Nat.ne_of_gt (Nat.lt_of_le_of_lt hlo.1 hu), Nat.ne_of_gt (Nat.lt_of_le_of_lt hlo.2.2.1 hu), Nat.ne_of_gt (Nat.lt_of_le_of_lt hlo.2.2.2.1 hu), Nat.ne_of_gt (Nat.lt_of_le_of_lt hlo.2.2.2.2.1 hu), Nat.ne_of_gt (Nat.lt_of_le_of_lt hlo.2.2.2.2.2 hu)⟩
  intro k
  induction k with
  | zero =>
    intro i h tk c acc as hk hi hz hl1 hl2 keep hS hacc hal hG hls
    obtain ⟨hTI, ⟨a, b, hTO⟩, g1, g2, st⟩ := hz
    have xe : xs[i]? = none := Array.getElem?_eq_none (by omega)
    have fin : ∀ h', (∀ c o, c ≠ z → c ≠ TO → c ≠ i1 → c ≠ i2 → h.get? c = some o → h'.get? c = some o) → R (.ok (.ret res)) { s with heap := h', toks := tk } := fun h' kp => by
      refine hR h' tk acc c as (fun b o n1 n2 n3 n4 n5 e => kp b o n2 n3 n4 n5 (keep b o n1 n2 n3 n4 n5 e)) (kp S _ hSz hSO hS1 hS2 hS) (by omega) ⟨hG.rise, hG.above, fun j a hj => ?_⟩ hacc
      obtain ⟨x, y, e1, e2, e3⟩ := hG.pairs j a hj
      obtain ⟨f1, f2, f3, f4, _⟩ := far a (hG.above a (List.mem_of_getElem? hj))
      exact ⟨x, y, e1, e2, kp a _ f1 f2 f3 f4 e3⟩
    refine codeAny_builtin F.entry_extend_loop ?_
    rw [Around.under_plainId F.plain_extend_loop _]
    show wpAny _ A.in1 (pyNext (.ref z) >>= _) _ _ _
    apply wpAny_bind
    rcases st with ⟨rfl, hz0⟩ | ⟨T, f, hT, hz1⟩
    · exact wpAny_pyNext_zip_end (s := { s with heap := h, toks := tk }) (A := A.in1) hh D hz0 hTI hTO g1 g2 hl1 hl2 (.inl xe) fun h' kp => wpAny_pure (fin h' kp)
    · obtain ⟨j, hj⟩ := List.mem_iff_getElem?.mp hT
      obtain ⟨x, y, _, _, e3⟩ := hG.pairs j T hj
      exact z_end_out (s := { s with heap := h, toks := tk }) (A := A.in1) hh D hz1 e3 hTI g1 hl1 xe fun h' kp => wpAny_pure (fin h' fun c o n1 _ n3 _ e => kp c o n1 n3 e)
  | succ k ih =>
    intro i h tk c acc as hk hi hz hl1 hl2 keep hS hacc hal hG hls
    obtain ⟨hTI, ⟨a, b, hTO⟩, g1, g2, st⟩ := hz
    have hlt : i < xs.size := by omega
    have hx := Array.getElem?_eq_getElem hlt
    have hy := Array.getElem?_eq_getElem (show i < ys.size by omega)
    have hsz : acc.size = i := by rw [← Array.length_toList, hacc, List.length_map, hal]
    have hSl : S < h.objs.size := Heap.lt_size hS
    refine codeAny_builtin F.entry_extend_loop ?_
    rw [Around.under_plainId F.plain_extend_loop _]
    show wpAny _ A.in1 (pyNext (.ref z) >>= _) _ _ _
    apply wpAny_bind
    -- one more pair
    have more : ∀ (h' : Heap) (f : Bool) (T : Addr), T ∈ as ++ [h.objs.size] → IsZ h' z TI TO (rawInt T) f → (∃ a b, IsPair h' TO a b) → h'.IsListIter i1 l1 (i + 1) → h'.IsListIter i2 l2 (i + 1) → IsPair h' h.objs.size xs[i] (ys[i]'(by omega)) → h'.objs.size = h.objs.size + 1 →
        (∀ c o, c ≠ z → c ≠ TO → c ≠ i1 → c ≠ i2 → h.get? c = some o → h'.get? c = some o) →
        wpAny (model P w) A.in1 (updateSeq S (·.push (Value.ref h.objs.size)) >>= fun _ => again (.builtin "list.extend.loop" ⟨[.ref S, .ref z, res], []⟩)) (fun fin s' => match fin with | .done f => R (.ok f) s' | .again c' => c'.quiet = true ∧ codeAny (model P w) A c' R s') (fun e s' => R (.error e) s') { s with heap := h', toks := tk } := by
      intro h' f T hT hz' hTO' g1' g2' hp hsz' kp
      have hS' := kp S _ hSz hSO hS1 hS2 hS
      have up : ∀ b o, b ≠ S → h'.get? b = some o → (h'.update S (Obj.mapSeq (·.push (Value.ref h.objs.size)))).get? b = some o := fun b o hb e => (Heap.get?_update_other _ _ (Ne.symm hb)).trans e
      apply wpAny_bind
      refine wpAny_updateSeq hS' rfl (wpAny_pure ⟨plainId_quiet F.plain_extend_loop _, ?_⟩) (by rw [hsz]; omega) (by show (acc.push (Value.ref h.objs.size)).size ≤ sizeLine + 1; rw [Array.size_push, hsz]; omega)
      refine ih (i + 1) _ tk _ (acc.push (Value.ref h.objs.size)) (as ++ [h.objs.size]) (by omega) hlt ?_ ?_ ?_ (fun b o n1 n2 n3 n4 n5 e => up b o n1 (kp b o n2 n3 n4 n5 (keep b o n1 n2 n3 n4 n5 e))) (Heap.get?_update_self _ hS' rfl) (by rw [Array.toList_push, hacc, List.map_append]; rfl) (by rw [List.length_append, hal]; rfl) ⟨?_, ?_, ?_⟩ ?_
      · obtain ⟨p, q, hpq⟩ := hTO'
        exact ⟨up _ _ hSI.symm (kp _ _ D.TIz D.TITO D.TIi1 D.TIi2 hTI), ⟨p, q, up _ _ hSO.symm hpq⟩, g1'.at fun o e => up _ o hS1.symm e, g2'.at fun o e => up _ o hS2.symm e, .inr ⟨T, f, hT, up _ _ hSz.symm hz'⟩⟩
      · exact hl1.at fun o e => up _ o hSa.symm (kp _ o D.l1z D.l1TO D.l1i1 D.l1i2 e)
      · exact hl2.at fun o e => up _ o hSb.symm (kp _ o D.l2z D.l2TO D.l2i1 D.l2i2 e)
      · refine List.pairwise_append.mpr ⟨hG.rise, List.pairwise_singleton _ _, fun u hu v hv => ?_⟩
        rw [List.mem_singleton.mp hv]
        obtain ⟨j, hj⟩ := List.mem_iff_getElem?.mp hu
        obtain ⟨_, _, _, _, e3⟩ := hG.pairs j u hj
        exact Heap.lt_size e3
      · intro u hu
        rcases List.mem_append.mp hu with hu | hu
        · exact hG.above u hu
        · rw [List.mem_singleton.mp hu]
          exact hls
      · intro j u hj
        by_cases hjl : j < as.length
        · rw [List.getElem?_append_left hjl] at hj
          obtain ⟨x, y, e1, e2, e3⟩ := hG.pairs j u hj
          obtain ⟨f1, f2, f3, f4, f5⟩ := far u (hG.above u (List.mem_of_getElem? hj))
          exact ⟨x, y, e1, e2, up u _ f5 (kp u _ f1 f2 f3 f4 e3)⟩
        · rw [List.getElem?_append_right (by omega)] at hj
          have hj2 := (List.getElem?_eq_some_iff.mp hj).1
          have ej : j = as.length := by
            simp only [List.length_cons, List.length_nil] at hj2
            omega
          subst ej
          rw [Nat.sub_self] at hj
          obtain rfl := Option.some.inj hj
          subst hal
          exact ⟨_, _, hx, hy, up _ _ (Nat.ne_of_gt hSl) hp⟩
      · have e := up _ _ (Nat.ne_of_gt hSl) hp
        exact Nat.lt_trans hls (Heap.lt_size e)
    rcases st with ⟨rfl, hz0⟩ | ⟨T, f, hT, hz1⟩
    · refine wpAny_pyNext_zip_item (s := { s with heap := h, toks := tk }) (A := A.in1) D hz0 hTI hTO g1 g2 hl1 hl2 hx hy fun h' b1 b2 b3 b4 b5 b6 b7 => ?_
      exact more h' false h.objs.size (List.mem_append_right _ List.mem_cons_self) b1 ⟨_, _, b2⟩ b3 b4 b5 b6 b7
    · obtain ⟨j, hj⟩ := List.mem_iff_getElem?.mp hT
      obtain ⟨x, y, _, _, e3⟩ := hG.pairs j T hj
      refine z_pyNext_out (s := { s with heap := h, toks := tk }) (A := A.in1) D hz1 e3 hTI g1 g2 hl1 hl2 hx hy fun h' b1 b2 b3 b4 b5 b6 => ?_
      exact more h' true T (List.mem_append_left _ hT) b1 ⟨_, _, b6 _ _ D.TOz D.TOi1 D.TOi2 hTO⟩ b2 b3 b4 b5 fun c o n1 _ n3 n4 e => b6 c o n1 n3 n4 e
theorem z_nolen : typeLookup (.type "zip") "__len__" = pure none := by
  rw [typeLookup_type, builtinLookup_eq_fast]
  kernel_rfl
theorem z_nohint : typeLookup (.type "zip") "__length_hint__" = pure none := by
  rw [typeLookup_type, builtinLookup_eq_fast]
  kernel_rfl
theorem z_hint {z : Addr} {Q : Bool → Shared → Prop} (hT : s.TypeIs (.ref z) "zip") (q : Q true s) : wpAny (model P w) A (Builtin.List.listLengthHint (.ref z)) Q E s := by
  unfold Builtin.List.listLengthHint
  apply wpAny_bind
  refine wpAny_specialOf hT z_nolen ?_
  refine wpAny_ite_split (fun h => absurd h (by decide)) (fun _ => ?_)
  refine wpAny_ite_split (fun h => absurd h (by decide)) (fun _ => ?_)
  apply wpAny_bind
  refine wpAny_specialOf hT z_nohint ?_
  exact wpAny_pure q
theorem z_extend {S z TI TO i1 i2 l1 l2 : Addr} {xs ys : Array Value} (hh : A.handled = none) (D : ZipApart z TI TO i1 i2 l1 l2) (hxy : xs.size = ys.size) (hSz : S ≠ z) (hSI : S ≠ TI) (hSO : S ≠ TO) (hS1 : S ≠ i1) (hS2 : S ≠ i2) (hSa : S ≠ l1) (hSb : S ≠ l2)
    (lo : Addr) (hlo : z ≤ lo ∧ TI ≤ lo ∧ TO ≤ lo ∧ i1 ≤ lo ∧ i2 ≤ lo ∧ S ≤ lo) (hls : lo < s.heap.objs.size) (hn : xs.size ≤ sizeLine) (res : Value) {R : Result → Shared → Prop} {c₀ : Nat}
    (hz : ZAt s.heap z TI TO i1 i2 l1 l2 0 []) (hz0 : IsZ s.heap z TI TO .none false) (hl1 : s.heap.IsList l1 xs) (hl2 : s.heap.IsList l2 ys) (hS : s.heap.get? S = some { cls := .type "list", data := .seq #[] c₀ })
    (hR : ∀ h' tk acc c as, (∀ b o, b ≠ S → b ≠ z → b ≠ TO → b ≠ i1 → b ≠ i2 → s.heap.get? b = some o → h'.get? b = some o) → h'.get? S = some { cls := .type "list", dict := none, data := .seq acc c, slots := #[] } → as.length = xs.size → MadeZ xs ys lo h' as →
      acc.toList = as.map Value.ref → R (.ok (.ret res)) { s with heap := h', toks := tk }) :
    wpAny (model P w) A.in1 (Builtin.List.listExtendWith (.ref S) (.ref z) res)
      (fun fin s' => match fin with | .done f => R (.ok f) s' | .again c' => c'.quiet = true ∧ codeAny (model P w) A c' R s') (fun e s' => R (.error e) s') s := by
  have ty : s.TypeIs (.ref z) "zip" := ⟨_, hz0, rfl⟩
  have go : ∀ (h : Heap) (c₁ tk : Nat), (∀ b o, b ≠ S → s.heap.get? b = some o → h.get? b = some o) → lo < h.objs.size → h.get? S = some { cls := .type "list", data := .seq #[] c₁ } →
      codeAny (model P w) A (.builtin "list.extend.loop" ⟨[.ref S, .ref z, res], []⟩) R { s with heap := h, toks := tk } := by
    intro h c₁ tk kp hl hS₁
    obtain ⟨hTI, ⟨a, b, hTO⟩, g1, g2, _⟩ := hz
    refine z_loop (s := s) (h₁ := s.heap) hh D hxy hSz hSI hSO hS1 hS2 hSa hSb lo hlo hn res hR xs.size 0 h tk c₁ #[] [] (Nat.sub_zero _) (Nat.zero_le _) ?_ (hl1.at fun o e => kp _ o hSa.symm e) (hl2.at fun o e => kp _ o hSb.symm e) (fun b o n1 _ _ _ _ e => kp b o n1 e) hS₁ rfl rfl ⟨List.Pairwise.nil, (fun _ z => nomatch z), (fun j a hj => by simp at hj)⟩ hl
    exact ⟨kp _ _ hSI.symm hTI, ⟨a, b, kp _ _ hSO.symm hTO⟩, g1.at fun o e => kp _ o hS1.symm e, g2.at fun o e => kp _ o hS2.symm e, .inl ⟨rfl, kp _ _ hSz.symm hz0⟩⟩
  unfold Builtin.List.listExtendWith
  apply wpAny_bind
  refine wpAny_typeOf (T := "zip") ty ?_
  have e1 : Builtin.List.listSameRef (.ref S) (.ref z) = false := by simp [Builtin.List.listSameRef, hSz]
  have e2 : (Value.type "zip" == Value.type "list") = false := by decide
  have e3 : (Value.type "zip" == Value.type "tuple") = false := by decide
  simp only [e1, e2, e3, Bool.or_false, Bool.false_eq_true, if_false]
  apply wpAny_bind
  refine wpAny_pyIter_slot ty F.slot_zip_iter ?_
  refine wpAny_call_entry F.slot_zip_iter ty F.entry_zip_iter ?_ (F.args_zip_iter_1 _)
  show wpAny _ _ (ret (.ref z)) _ _ s
  refine wpAny_pure ⟨_, rfl, "zip", _, ty, F.slot_zip_next.lookup, ?_⟩
  apply wpAny_bind
  apply wpAny_holding
  refine z_hint ty ?_
  refine wpAny_ite_split (fun _ => ?_) (fun _ => wpAny_pure ⟨plainId_quiet F.plain_extend_loop _, go _ c₀ _ (fun b o _ e => e) hls hS⟩)
  apply wpAny_bind
  apply wpAny_rule
  apply wpAny_bind
  show wpAny _ _ (updateSeq S (·.push .none) >>= fun _ => updateSeq S (·.pop)) _ _ _
  apply wpAny_bind
  refine wpAny_updateSeq hS rfl ?_
  have hS₂ := Heap.get?_update_self (Obj.mapSeq (·.push Value.none)) hS rfl
  refine wpAny_updateSeq (hz := by seq_fits) hS₂ rfl ?_
  have hS₃ := Heap.get?_update_self (Obj.mapSeq (·.pop)) hS₂ rfl
  refine wpAny_pure ⟨plainId_quiet F.plain_extend_loop _, go _ _ _ (fun b o hb e => ?_) ?_ hS₃⟩
  · exact (Heap.get?_update_other _ _ (Ne.symm hb)).trans ((Heap.get?_update_other _ _ (Ne.symm hb)).trans e)
  · rw [Heap.size_update, Heap.size_update]
    exact hls
theorem z_list {z TI TO i1 i2 l1 l2 : Addr} {xs ys : Array Value} (hh : A.handled = none) (D : ZipApart z TI TO i1 i2 l1 l2) (hxy : xs.size = ys.size) (hn : xs.size ≤ sizeLine) {Q : Value → Shared → Prop}
    (hz : ZAt s.heap z TI TO i1 i2 l1 l2 0 []) (hz0 : IsZ s.heap z TI TO .none false) (hl1 : s.heap.IsList l1 xs) (hl2 : s.heap.IsList l2 ys)
    (q : ∀ h' tk acc c as, (∀ b o, b ≠ z → b ≠ TO → b ≠ i1 → b ≠ i2 → s.heap.get? b = some o → h'.get? b = some o) → h'.get? s.heap.objs.size = some { cls := .type "list", dict := none, data := .seq acc c, slots := #[] } → as.length = xs.size → MadeZ xs ys s.heap.objs.size h' as →
      acc.toList = as.map Value.ref → Q (.ref s.heap.objs.size) { s with heap := h', toks := tk }) :
    wpAny (model P w) A (call (.type "list") [.ref z]) Q E s := by
  refine callType_codes (Q₁ := fun obj s₁ => obj = .ref s.heap.objs.size ∧ s₁ = { s with heap := s.heap.push { cls := .type "list", data := .seq #[] } }) F.called_list (F.typeCall_list_1 _) F.entry_list_init (code_list_new _ ⟨rfl, rfl⟩) ?_
  rintro obj s₁ ⟨rfl, rfl⟩
  have hS : (s.heap.push { cls := .type "list", data := .seq #[] }).get? s.heap.objs.size = some { cls := .type "list", data := .seq #[] } := Heap.get?_push_size _ rfl
  obtain ⟨hTI, ⟨a, b, hTO⟩, g1, g2, _⟩ := id hz
  have lt : ∀ {c : Addr} {o : Obj}, s.heap.get? c = some o → c < s.heap.objs.size := fun e => Heap.lt_size e
  have z1 : i1 < s.heap.objs.size := g1.elim fun o e => lt e.1
  have z2 : i2 < s.heap.objs.size := g2.elim fun o e => lt e.1
  have z3 : l1 < s.heap.objs.size := hl1.elim fun o e => lt e.1
  have z4 : l2 < s.heap.objs.size := hl2.elim fun o e => lt e.1
  refine ⟨⟨_, hS, rfl⟩, F.args_list_init_2 _ _, ?_⟩
  show wpAny _ _ (do let old ← Builtin.List.listItems (.ref s.heap.objs.size); Builtin.List.listUpdate (.ref s.heap.objs.size) (fun _ => #[]); letGo old.toList.reverse; Builtin.List.listExtendWith (.ref s.heap.objs.size) (.ref z) .none) _ _ _
  apply wpAny_bind
  unfold Builtin.List.listItems
  apply wpAny_bind
  refine wpAny_seqItems hS rfl (wpAny_pure ?_)
  show wpAny _ _ (updateSeq s.heap.objs.size (fun _ => #[]) >>= fun _ => letGo (#[] : Array Value).toList.reverse >>= fun _ => Builtin.List.listExtendWith (.ref s.heap.objs.size) (.ref z) .none) _ _ _
  apply wpAny_bind
  refine wpAny_updateSeq hS rfl ?_
  have hS₂ := Heap.get?_update_self (Obj.mapSeq (fun _ => (#[] : Array Value))) hS rfl
  have kp : ∀ b o, s.heap.get? b = some o → ((s.heap.push { cls := .type "list", data := .seq #[] }).update s.heap.objs.size (Obj.mapSeq (fun _ => (#[] : Array Value)))).get? b = some o := fun b o e => (Heap.get?_update_other _ _ (Nat.ne_of_gt (Heap.lt_size e))).trans (Heap.get?_push_of_some _ e)
  apply wpAny_bind
  apply wpAny_letGo
  refine z_extend (A := A.in1) (S := s.heap.objs.size) hh D hxy (Nat.ne_of_gt (lt hz0)) (Nat.ne_of_gt (lt hTI)) (Nat.ne_of_gt (lt hTO)) (Nat.ne_of_gt z1) (Nat.ne_of_gt z2) (Nat.ne_of_gt z3) (Nat.ne_of_gt z4) s.heap.objs.size ⟨Nat.le_of_lt (lt hz0), Nat.le_of_lt (lt hTI), Nat.le_of_lt (lt hTO), Nat.le_of_lt z1, Nat.le_of_lt z2, Nat.le_refl _⟩ ?_ hn .none ?_ (kp _ _ hz0) (hl1.at fun o e => kp _ o e) (hl2.at fun o e => kp _ o e) hS₂ ?_
  · show s.heap.objs.size < ((s.heap.push { cls := .type "list", data := .seq #[] }).update s.heap.objs.size (Obj.mapSeq (fun _ => (#[] : Array Value)))).objs.size
    rw [Heap.size_update, Heap.size_push]
    exact Nat.lt_succ_self _
  · exact ⟨kp _ _ hTI, ⟨a, b, kp _ _ hTO⟩, g1.at fun o e => kp _ o e, g2.at fun o e => kp _ o e, .inl ⟨rfl, kp _ _ hz0⟩⟩
  · intro h' tk acc c as k1 k2 k3 k4 k5
    exact ⟨rfl, q h' tk acc c as (fun b o n1 n2 n3 n4 e => k1 b o (Nat.ne_of_lt (Heap.lt_size e)) n1 n2 n3 n4 (kp b o e)) k2 k3 k4 k5⟩
end lz
theorem paired_of {α β : Type} {F : α → β → Prop} : ∀ {l : List α} {k : List β}, l.length = k.length → (∀ (j : Nat) x y, l[j]? = some x → k[j]? = some y → F x y) → Paired F l k
  | [], [], _, _ => .nil
  | [], _ :: _, h, _ => nomatch h
  | _ :: _, [], h, _ => nomatch h
  | x :: l, y :: k, h, f => .cons (f 0 x y rfl rfl) (paired_of (Nat.succ.inj h) fun j a b ha hb => f (j + 1) a b (by simpa using ha) (by simpa using hb))
section lzr
variable {X : Cx}
def tListZip (K : PySem.W.Frag) (ta : TA) : TE := fun σ H Q => ta σ H fun vs H1 => ∃ a b xs ys, vs = [.ref a, .ref b] ∧ SqL K H1 a xs ∧ SqL K H1 b ys ∧ xs.length = ys.length ∧
  ∀ H' p ts, Same H1 H' → H1 p = none → H' p = some (.lst (ts.map V.ref)) → Paired (fun (t : Addr) (e : V × V) => H' t = some (.tup [e.1, e.2])) ts (xs.zip ys) → Q (.ref p) H'
theorem pe_listZip {e e2 : Expr} {ta : TA} {p p2 pos pos2 : Pos} (hc : X.calm = true) (hg : Gl X "list") (hm : X.mg "list" = none) (hg2 : Gl X "zip") (hm2 : X.mg "zip" = none) (ha : PA X [e, e2] ta)
    (c1 : starEach [.Call (.Name "zip" p2) [e, e2] [] pos2] X.env = (false, eval (.Call (.Name "zip" p2) [e, e2] [] pos2) X.env) :: starEach [] X.env := by rfl)
    (c2 : starEach [e, e2] X.env = (false, eval e X.env) :: starEach [e2] X.env := by rfl) (c3 : (backTo pos2 (starEach [e2] X.env)).any (·.1) = false := by rfl) :
    PE X (.Call (.Name "list" p) [.Call (.Name "zip" p2) [e, e2] [] pos2] [] pos) (tListZip X.K ta) := by
  constructor
  intro pins s σ H Q I h
  refine wpAny_Call_Name_kw (ld_blt I hg hm (by decide +kernel : bootBuiltins "list" = some (.type "list")) ?_)
  refine PyProof.Rows.callWith_type1 ?_ c1 rfl
  rw [c1]
  show wpAny _ _ (spliced ((false, eval (.Call (.Name "zip" p2) [e, e2] [] pos2) X.env) :: backTo pos (starEach [] X.env))) _ _ s
  refine Calls.spliced_cons ?_
  refine Call_ (ld_blt I hg2 hm2 PyProof.Rows.boot_zip (PyProof.Rows.callWith_type1 (thn (ha.run pos2 pins s σ H _ I h) ?_) c2 c3))
  rintro us s1 ⟨vs, H1, I1, r1, a, b, xs, ys, rfl, hx, hy, hxy, q⟩
  match us, r1 with
  | [u1, u2], .cons ra (.cons rb .nil) =>
    cases ra
    cases rb
    obtain ⟨it1, rv1, p1, z1⟩ := I1.list hx
    obtain ⟨it2, rv2, p2', z2⟩ := I1.list hy
    have n1 := rv1.length
    have n2 := rv2.length
    refine call_zip_2 p1.isList p2'.isList fun h' hz hTI hTO g1 g2 hsz hk => ?_
    refine Calls.spliced_nil ?_
    have la : a < s1.heap.objs.size := p1.lt
    have lb : b < s1.heap.objs.size := p2'.lt
    refine z_list (s := { s1 with heap := h' }) (I1.ok.hd hc) (PySem.W.ktu_apart s1.heap.objs.size a b la lb) (by simp; omega) (by simp; omega) ⟨hTI, ⟨_, _, hTO⟩, g1, g2, .inl ⟨rfl, hz⟩⟩ hz (p1.isList.at fun o e => hk _ o e) (p2'.isList.at fun o e => hk _ o e) fun h'' tk acc c as kp hS hal hG hacc => ?_
    have old : ∀ b o, s1.heap.get? b = some o → h''.get? b = some o := fun b o e => by
      have lt := Heap.lt_size e
      exact kp b o (Nat.ne_of_lt (Nat.lt_of_lt_of_le lt (Nat.le_add_right _ _))) (Nat.ne_of_lt (Nat.lt_of_lt_of_le lt (Nat.le_add_right _ _))) (Nat.ne_of_lt lt) (Nat.ne_of_lt (Nat.lt_of_lt_of_le lt (Nat.le_add_right _ _))) (hk b o e)
    have hS5 : s1.heap.objs.size ≤ h'.objs.size := by
      rw [hsz]
      exact Nat.le_add_right _ _
    have J0 : Inv X pins σ H1 { s1 with heap := h'', toks := tk } := I1.kept (t' := tk) old
    have nS : H1 h'.objs.size = none := I1.hok.fresh hS5
    have hl : as.length = xs.length := by
      rw [hal]
      simp
      omega
    have ok1 : ObjOk X.prog X.w (upd H1 h'.objs.size (.lst (as.map V.ref))) h'' h'.objs.size (.lst (as.map V.ref)) := by
      refine ⟨by rw [List.length_map, hl]; exact z1, acc.toList, c, ?_, ?_⟩
      · rw [hacc]
        exact LiI.vals_refs as
      · rw [Array.toArray_toList]
        exact hS
    have J1 : Inv X pins σ (upd H1 h'.objs.size (.lst (as.map V.ref))) { s1 with heap := h'', toks := tk } := J0.take (h' := h'') (t' := tk) (fun b ob _ e => e) (I1.fpOk hS5 nS) ok1
    have nd : as.Nodup := hG.rise.imp fun {a b} (h : a < b) => Nat.ne_of_lt h
    obtain ⟨H2, J2, s2, tp⟩ := L2.DX.takeT (P := fun t vs => ∃ (j : Nat) (e : V × V), as[j]? = some t ∧ (xs.zip ys)[j]? = some e ∧ vs = [e.1, e.2]) I1 as _ J1 nd fun t ht => by
      obtain ⟨j, hj⟩ := List.mem_iff_getElem?.mp ht
      obtain ⟨x, y, e1, e2, e3⟩ := hG.pairs j t hj
      have ab := hG.above t ht
      have hjx : j < xs.length := by
        have := (List.getElem?_eq_some_iff.mp hj).1
        omega
      have ex : it1[j]? = some x := by simpa using e1
      have ey : it2[j]? = some y := by simpa using e2
      obtain ⟨x', hx', rx⟩ := rv1.get (List.getElem?_eq_getElem hjx)
      obtain ⟨y', hy', ry⟩ := rv2.get (List.getElem?_eq_getElem (show j < ys.length by omega))
      rw [hx'] at ex
      rw [hy'] at ey
      obtain rfl := Option.some.inj ex
      obtain rfl := Option.some.inj ey
      refine ⟨Nat.le_trans hS5 (Nat.le_of_lt ab), ?_, [xs[j], ys[j]'(by omega)], ⟨j, (xs[j], ys[j]'(by omega)), hj, ?_, rfl⟩, fun H3 => ⟨by show 2 ≤ sizeLine; decide, [x', y'], .cons rx (.cons ry .nil), ⟨_, e3, rfl, _, rfl⟩⟩⟩
      · rw [upd_ne (Nat.ne_of_gt ab)]
        exact I1.hok.fresh (Nat.le_trans hS5 (Nat.le_of_lt ab))
      · rw [List.getElem?_zip_eq_some]
        exact ⟨List.getElem?_eq_getElem hjx, List.getElem?_eq_getElem (by omega)⟩
    refine ⟨.ref h'.objs.size, H2, J2, rfl, q H2 h'.objs.size as (fun b o e => s2 b o (by rw [upd_ne (ne_of_none e nS)]; exact e)) nS (s2 _ _ upd_same) ?_⟩
    refine paired_of (by rw [List.length_zip]; omega) fun j t e ht he => ?_
    obtain ⟨vs, ⟨j', e', h1, h2, rfl⟩, h3⟩ := tp t (List.mem_of_getElem? ht)
    have : j = j' := by
      have i1 := (List.getElem?_eq_some_iff.mp ht).1
      exact (List.getElem?_inj i1 nd).mp (ht.trans h1.symm)
    subst this
    rw [he] at h2
    obtain rfl := Option.some.inj h2
    exact h3
end lzr
def spWell (K : PySem.W.Frag) : Sp := fun vs H Q _ => ∃ (a : Addr) (ns : List Int), vs = [.ref a] ∧ SqL K H a (ns.map V.int) ∧ ns.length ≤ 63 ∧ (∀ z ∈ ns, Builtin.Int.intBits z ≤ 1048576) ∧
  ∀ H' p c, Same H H' → H p = none → H c = none → WL H' p c → Q (.ref p) H'
theorem ok_well {f : Addr} {fd : FuncData} {k : Nat} (F : Fun K "_law_well" "_law_well" s_law_well f fd) (ma : mg "abs" = none) : FnOk P w K mg base CX0 (k + 1) f fd ["script"] (spWell K) := by
  refine F.ok sc_law_well (fun vs H Q E h => ?_) (fun cdv A outer s H vs Q E hr h => ?_)
  · obtain ⟨a, ns, rfl, _⟩ := h
    rfl
  · obtain ⟨a, ns, rfl, hS, hlen, hbits, q⟩ := h
    refine ⟨_, pss_cons (ps_set (i := 1) sc_law_well.nd rfl (.inl rfl) pe_int)
      (pss_cons (ps_for PassesOwn.never rfl (pi_list (pv 0)) (pg_name (i := 2) sc_law_well.nd rfl (.inl rfl))
        (pss_one (ps_set (i := 1) sc_law_well.nd rfl (.inl rfl) (pe_op op_add (pe_op op_mod (pe_op op_powW (pe_op op_add (pe_op op_mul (pv 1) pe_int) (pv 2)) pe_int) pe_int) pe_int))))
      (pss_one (ps_ret (pe_lst (pa_cons (pe_lc (own := [("cell", 2)]) (g := gName 2) (by rfl) sc_law_well.nd (pi_list (pv 0)) (blkOk_by (own := [("cell", 2)]) (N := ["script", "seed", "cell"]) (sc := defScope s_law_well) (by decide +kernel))
          (fun _ _ _ _ _ => pg_name (i := 2) sc_law_well.nd rfl (Or.inl rfl)) (fun _ _ _ _ _ => pts_nil)
          (fun _ _ _ _ _ => pe_callB call_abs (by rfl) ma (by decide +kernel) (pa_cons (pv 2) pa_nil))) (pa_cons pe_int (pa_cons (pv 1) pa_nil))))))), ?_⟩
    refine ⟨.ref a, rfl, a, rfl, ⟨_, hS⟩, for_list (K := K) (a := a) (xs := ns.map V.int) (fun i σ H3 => ∃ z y, σ = [some (.ref a), some (.int z), y] ∧ 0 ≤ z ∧ z ≤ 2147483629 ∧ H3 = H) ⟨1, none, rfl, by decide, by decide, rfl⟩ (fun i σ H3 _ hp => ?_) (fun i x σ H3 hx hp => ?_) (fun σ H3 hp => ?_)⟩
    · obtain ⟨z, y, _, _, _, rfl⟩ := hp
      exact hS
    · obtain ⟨z, y, rfl, h0, h1, rfl⟩ := hp
      obtain ⟨c, hc, rfl⟩ : ∃ c, c ∈ ns ∧ x = .int c := by
        rw [List.getElem?_map] at hx
        cases e : ns[i]? with
        | none => rw [e] at hx; cases hx
        | some c => rw [e] at hx; exact ⟨c, List.mem_of_getElem? e, (Option.some.inj hx).symm⟩
      refine ⟨.int z, rfl, z, 50021, rfl, rfl, .inr ⟨by decide, by decide⟩, .int c, rfl, _, _, rfl, rfl, _, 3, rfl, rfl, seed_ok h0 h1 (hbits c hc), _, 2147483629, rfl, rfl, (by show (0 : Int) < 2147483629; decide), _, 1, rfl, rfl, ?_⟩
      refine ⟨_, some (.int c), rfl, ?_, ?_, rfl⟩
      · have := Int.emod_nonneg ((z * 50021 + c) ^ (3 : Int).toNat) (show (2147483629 : Int) ≠ 0 by decide)
        omega
      · have := Int.emod_lt_of_pos ((z * 50021 + c) ^ (3 : Int).toNat) (show (0 : Int) < 2147483629 by decide)
        omega
    · obtain ⟨z, y, rfl, h0, h1, rfl⟩ := hp
      refine ⟨.ref a, rfl, a, rfl, ⟨_, hS⟩, fun D hD => ?_⟩
      have sD : ∀ o, Same H3 (upd H3 D o) := fun o => same_new hD
      refine lc_list (K := K) (a := a) (xs := ns.map V.int) (fun i H4 => ∃ cs : List Int, cs.length = i ∧ H4 = upd H3 D (.lst (cs.map V.int))) ⟨[], rfl, rfl⟩ (fun i H4 _ hp => ?_) (fun i x H4 hx hp => ?_) (fun H4 hp => ?_)
      · obtain ⟨cs, _, rfl⟩ := hp
        exact (sD _).seq hS
      · obtain ⟨cs, hl, rfl⟩ := hp
        obtain ⟨c, hc, rfl⟩ : ∃ c, c ∈ ns ∧ x = .int c := by
          rw [List.getElem?_map] at hx
          cases e : ns[i]? with
          | none => rw [e] at hx; cases hx
          | some c => rw [e] at hx; exact ⟨c, List.mem_of_getElem? e, (Option.some.inj hx).symm⟩
        have hi : i < ns.length := by
          have := (List.getElem?_eq_some_iff.mp hx).1
          rwa [List.length_map] at this
        refine ⟨rfl, .int c, rfl, c, rfl, _, upd_same, ?_, cs ++ [if c < 0 then -c else c], ?_, ?_⟩
        · rw [List.length_map, hl]
          exact small1000 (by omega)
        · rw [List.length_append, hl]
          rfl
        · rw [upd_upd, List.map_append]
          rfl
      · obtain ⟨cs, hl, rfl⟩ := hp
        refine ⟨.int z, rfl, by show 3 ≤ sizeLine; decide, fun p hp => ?_⟩
        have np : p ≠ D := fun e => by
          rw [e, upd_same] at hp
          cases hp
        have hp2 : H3 p = none := by
          rw [upd_ne np] at hp
          exact hp
        refine q _ p D ((sD _).trans (same_new hp)) hp2 hD ⟨np, cs, 0, z, upd_same, ?_⟩
        rw [upd_ne np.symm, upd_same]
def spDraw : Sp := fun vs H Q _ => ∃ (a c : Addr) (m : Int), vs = [.ref a, .int m] ∧ 0 < m ∧ m ≤ 2 ^ 80 ∧ WL H a c ∧ ∀ H' z, 0 ≤ z → z < m → WL H' a c → Kp a c H H' → Q (.int z) H'
theorem ok_draw {f : Addr} {fd : FuncData} {k : Nat} (F : Fun K "_law_draw" "_law_draw" s_law_draw f fd) : FnOk P w K mg base CX0 (k + 1) f fd ["well", "many"] spDraw := by
  refine F.ok sc_law_draw (fun vs H Q E h => ?_) (fun cdv A outer s H vs Q E hr h => ?_)
  · obtain ⟨a, c, m, rfl, _⟩ := h
    rfl
  · obtain ⟨a, c, m, rfl, hm, hm2, hw, q⟩ := h
    refine ⟨_, pss_mid (ps_if (PW.pt (pw_and (pt_cmpR op_eq (pe_ix ix_list (pv 0) pe_int (fun _ _ => rfl)) pe_int (nomark _))
          (pw_and1 (pt_cmpR (op_neD hr.units) (pe_ix ix_list (pv 0) pe_int (fun _ _ => rfl)) (pe_lst pa_nil) (nomark _)))))
        (pss_cons (ps_set (i := 2) sc_law_draw.nd rfl (.inl rfl) (pe_bm PySem.F.plainAttrs_list PySem.F.slot_list_pop PySem.F.type_list_pop mt_popAt (pe_ix ix_list (pv 0) pe_int (fun _ _ => rfl)) (pa_cons pe_int pa_nil)))
        (pss_cons (ps_if (pt_cmpR op_lt (pv 2) (pe_op op_pow pe_int pe_int) (nomark _)) (pss_one (ps_ret (pe_op op_mod (pv 2) (pv 1)))) pss_nil)
        (pss_one (ps_asg (pv 2) (pg_sub (pv 0) pe_int set_list))))) pss_nil)
      (pss_cons (ps_if (pt_cmpR op_gt (pe_ix ix_list (pv 0) pe_int (fun _ _ => rfl)) pe_int (nomark _))
        (pss_cons (ps_set (i := 3) sc_law_draw.nd rfl (.inl rfl) (pe_op op_mod (pe_ix ix_list (pv 0) pe_int (fun _ _ => rfl)) (pv 1)))
        (pss_cons (ps_asg (pe_op op_fdivW (pe_ix ix_list (pv 0) pe_int (fun _ _ => rfl)) (pv 1)) (pg_sub (pv 0) pe_int set_list))
        (pss_one (ps_ret (pv 3))))) pss_nil)
      (pss_cons (ps_asg (pe_op op_mod (pe_op op_add (pe_op op_mul (pe_ix ix_list (pv 0) pe_int (fun _ _ => rfl)) pe_int) pe_int) pe_int) (pg_sub (pv 0) pe_int set_list))
      (pss_one (ps_ret (pe_op op_mod (pe_op op_fdiv (pe_op op_mod (pe_op op_pow (pe_op op_mod (pe_op op_pow (pe_ix ix_list (pv 0) pe_int (fun _ _ => rfl)) pe_int) pe_int) pe_int) pe_int) pe_int) (pv 1)))))), ?_⟩
    refine ⟨fun σ2 H2 => ∃ y, σ2 = [some (.ref a), some (.int m), y, none] ∧ WL H2 a c ∧ Kp a c H H2, ?_, ?_⟩
    · obtain ⟨nac, cs, r, sd, ea, ec⟩ := id hw
      have lA : SqL K H a [.ref c, .int r, .int sd] := .inl (.inl ea)
      refine ⟨.ref a, rfl, a, _, 1, .int r, rfl, rfl, lA, rfl, rfl, _, rfl, ite2 (fun e => ?_) (fun e => ?_)⟩
      · refine ⟨.ref a, rfl, a, _, 0, .ref c, rfl, rfl, lA, rfl, Nat.zero_le _, fun p hp => ?_⟩
        have sp : Same H (upd H p (.lst [])) := same_new hp
        refine ⟨.list (cs.map PyData.int), .list [], .lst (sp.seq (.inl (.inl ec))) (dp_ints cs), .lst (.inl (.inl upd_same)) .nil, shaped_ints cs, by decide +kernel, _, rfl, ?_⟩
        have ec2 : upd H p (.lst []) c = some (.lst (cs.map V.int)) := sp _ _ ec
        have ea2 : upd H p (.lst []) a = some (.lst [.ref c, .int r, .int sd]) := sp _ _ ea
        have lA2 : SqL K (upd H p (.lst [])) a [.ref c, .int r, .int sd] := .inl (.inl ea2)
        cases cs with
        | nil =>
          rw [show PyData.eqv (.list (([] : List Int).map PyData.int)) (.list []) = true by decide +kernel]
          exact ⟨_, rfl, hw.same sp, Same.kp sp⟩
        | cons x cs =>
          rw [show PyData.eqv (.list ((x :: cs).map PyData.int)) (.list []) = false by simp only [List.map_cons, PyData.eqv, PyData.eqvAll]]
          refine ⟨.ref a, rfl, a, _, 0, .ref c, rfl, rfl, lA2, rfl, .inl ⟨rfl, _, .inl (.inl ec2)⟩, c, _, 0, 0, .int x, rfl, rfl, ec2, by decide, by decide, ?_, rfl, ?_⟩
          · rw [List.length_map, List.length_cons]
            exact seq0 _
          have w3 : WL (upd (upd H p (.lst [])) c (.lst (List.eraseIdx ((x :: cs).map V.int) 0))) a c := ⟨nac, cs, r, sd, by rw [upd_ne nac]; exact ea2, upd_same⟩
          have k3 : Kp a c H (upd (upd H p (.lst [])) c (.lst (List.eraseIdx ((x :: cs).map V.int) 0))) := fun b o n1 n2 eb => by
            rw [upd_ne n2]
            exact sp _ _ eb
          refine ⟨.int x, rfl, 10, 18, rfl, rfl, ⟨by decide, by decide, by decide⟩, x, _, rfl, rfl, _, rfl, ite2 (fun e => ?_) (fun e => ?_)⟩
          · exact ⟨.int x, rfl, .int m, rfl, x, m, rfl, rfl, hm, q _ _ (Int.emod_nonneg _ (by omega)) (Int.emod_lt_of_pos _ hm) w3 k3⟩
          · refine ⟨.int x, rfl, .ref a, rfl, a, _, 1, 1, rfl, rfl, by rw [upd_ne nac]; exact ea2, rfl, some (.int x), rfl, ?_, ?_⟩
            · exact ⟨nac, cs, x, sd, upd_same, by rw [upd_ne nac.symm]; exact upd_same⟩
            · intro b o n1 n2 eb
              rw [upd_ne n1]
              exact k3 b o n1 n2 eb
      · exact ⟨_, rfl, hw, Kp.refl a c H⟩
    · rintro σ2 H2 ⟨y, rfl, hw2, kp⟩
      obtain ⟨nac, cs, r, sd, ea, ec⟩ := id hw2
      have lA : SqL K H2 a [.ref c, .int r, .int sd] := .inl (.inl ea)
      refine ⟨.ref a, rfl, a, _, 1, .int r, rfl, rfl, lA, rfl, r, 0, rfl, rfl, _, rfl, ite2 (fun e => ?_) (fun e => ?_)⟩
      · refine ⟨.ref a, rfl, a, _, 1, .int r, rfl, rfl, lA, rfl, .int m, rfl, r, m, rfl, rfl, hm, ?_⟩
        refine ⟨.ref a, rfl, a, _, 1, .int r, rfl, rfl, lA, rfl, .int m, rfl, r, m, rfl, rfl, wide_div (b := 81) hm (by omega) (by decide) (by decide), ?_⟩
        refine ⟨.ref a, rfl, a, _, 1, 1, rfl, rfl, ea, rfl, .int (r % m), rfl, ?_⟩
        refine q _ _ (Int.emod_nonneg _ (by omega)) (Int.emod_lt_of_pos _ hm) ⟨nac, cs, r / m, sd, upd_same, ?_⟩ ?_
        · rw [upd_ne nac.symm]
          exact ec
        · intro b o n1 n2 eb
          rw [upd_ne n1]
          exact kp b o n1 n2 eb
      · refine ⟨.ref a, rfl, a, _, 2, .int sd, rfl, rfl, lA, rfl, sd, 48271, rfl, rfl, .inr ⟨by decide, by decide⟩, _, 12345, rfl, rfl, _, 2147483647, rfl, rfl, (by show (0 : Int) < 2147483647; decide), ?_⟩
        have l0 := Int.emod_nonneg (sd * 48271 + 12345) (show (2147483647 : Int) ≠ 0 by decide)
        have l1 := Int.emod_lt_of_pos (sd * 48271 + 12345) (show (0 : Int) < 2147483647 by decide)
        obtain ⟨z, hz⟩ : ∃ z : Int, (sd * 48271 + 12345) % 2147483647 = z := ⟨_, rfl⟩
        rw [hz] at l0 l1
        refine ⟨.ref a, rfl, a, _, 2, 2, rfl, rfl, ea, rfl, ?_⟩
        have l2 := Int.emod_nonneg (z ^ (3 : Int).toNat) (show (2147483629 : Int) ≠ 0 by decide)
        have l3 := Int.emod_lt_of_pos (z ^ (3 : Int).toNat) (show (0 : Int) < 2147483629 by decide)
        refine ⟨.ref a, rfl, a, _, 2, .int z, rfl, rfl, .inl (.inl upd_same), (by rw [← hz]; rfl), z, 3, rfl, rfl, ⟨by decide, by decide, by omega⟩, _, 2147483629, rfl, rfl, (by show (0 : Int) < 2147483629; decide), ?_⟩
        obtain ⟨x, hx⟩ : ∃ x : Int, z ^ (3 : Int).toNat % 2147483629 = x := ⟨_, rfl⟩
        rw [hx] at l2 l3
        refine ⟨x, 5, congrArg V.int hx, rfl, ⟨by decide, by decide, by omega⟩, _, 1000000007, rfl, rfl, (by show (0 : Int) < 1000000007; decide), _, 7, rfl, rfl, ⟨by decide, by decide⟩, .int m, rfl, _, m, rfl, rfl, hm, ?_⟩
        refine q _ _ (Int.emod_nonneg _ (by omega)) (Int.emod_lt_of_pos _ hm) ⟨nac, cs, r, z, (by rw [← hz]; exact upd_same), ?_⟩ ?_
        · rw [upd_ne nac.symm]
          exact ec
        · intro b o n1 n2 eb
          rw [upd_ne n1]
          exact kp b o n1 n2 eb
/-! ### first_words -/
def spFw : Sp := fun vs H Q _ => vs = [] ∧ ∀ H' p, Same H H' → H p = none → H' p = some (.dK fwK) → Q (.ref p) H'
theorem ok_fw {f : Addr} {fd : FuncData} {k : Nat} (F : Fun K "_law_first_words" "_law_first_words" s_law_first_words f fd) : FnOk P w K mg base CX0 (k + 1) f fd [] spFw := by
  refine F.ok sc_law_first_words (fun vs H Q E h => ?_) (fun cdv A outer s H vs Q E hr h => ?_)
  · rw [h.1]
    rfl
  · obtain ⟨rfl, q⟩ := h
    refine ⟨_, pss_cons (ps_set (i := 0) sc_law_first_words.nd rfl (.inl rfl) (pe_disp (pps_cons pe_str pe_int (pps_cons pe_str pe_int (pps_cons pe_str pe_int (pps_cons pe_str pe_int (pps_cons pe_str pe_int (pps_cons pe_str pe_int pps_nil)))))) (by rfl) (by rfl) (fun z => by cases z) (by decide)))
      (pss_cons (ps_for PassesOwn.never rfl (pi_list (pe_lst (pa_cons pe_str (pa_cons pe_str (pa_cons pe_str (pa_cons pe_str (pa_cons pe_str pa_nil))))))) (pg_name (i := 1) sc_law_first_words.nd rfl (.inl rfl))
        (pss_one (ps_dput (hu_of hr) (pv 0) (pv 1) pe_int rfl)))
      (pss_one (ps_ret (pv 0)))), ?_⟩
    intro p hp
    refine ⟨upd_same, (fwK.take 6), rfl, by decide, ?_⟩
    refine ⟨by show 5 ≤ sizeLine; decide, fun l hl => ?_⟩
    rw [upd_upd] at hl ⊢
    have nlp : l ≠ p := fun e => by
      rw [e, upd_same] at hl
      cases hl
    have hl0 : H l = none := by
      rw [upd_ne nlp] at hl
      exact hl
    refine ⟨l, rfl, ⟨_, .inl (.inl upd_same)⟩, for_list (K := K) (a := l) (xs := [.str "and", .str "or", .str "xor", .str "add", .str "sub"]) (fun i σ H3 => ∃ y, σ = [some (.ref p), y] ∧ H3 p = some (.dK (fwK.take (6 + i))) ∧ H3 l = some (.lst [.str "and", .str "or", .str "xor", .str "add", .str "sub"]) ∧ Same H H3) ⟨none, rfl, ?_, upd_same, (same_new hp).trans (same_new hl)⟩ (fun i σ H3 _ hp => ?_) (fun i x σ H3 hx hq => ?_) (fun σ H3 hq => ?_)⟩
    · rw [upd_ne nlp.symm, upd_same]
      rfl
    · obtain ⟨y, _, _, e, _⟩ := hp
      exact .inl (.inl e)
    · obtain ⟨y, rfl, ep, el, sm⟩ := hq
      have hi : i < 5 := (List.getElem?_eq_some_iff.mp hx).1
      have hp3 : ∀ o, Same H (upd H3 p o) := fun o b u e => by
        rw [upd_ne (ne_of_none e hp)]
        exact sm b u e
      have hlen : (fwK.take (6 + i)).length < sizeLine := by
        rw [List.length_take]
        exact small1000 (by omega)
      obtain ⟨x0, rfl, ex⟩ : ∃ x0 : Str, x = .str x0 ∧ putK (fwK.take (6 + i)) (Sum.inr x0) (.int 2) = fwK.take (6 + (i + 1)) := by
        have : i = 0 ∨ i = 1 ∨ i = 2 ∨ i = 3 ∨ i = 4 := by omega
        rcases this with rfl | rfl | rfl | rfl | rfl <;> exact ⟨_, (Option.some.inj hx).symm, by decide +kernel⟩
      refine ⟨.ref p, rfl, .str x0, rfl, p, _, rfl, DPut.k (k := Sum.inr x0) ep hlen, some (.str x0), rfl, ?_, ?_, hp3 _⟩
      · rw [upd_same, ex]
      · rw [upd_ne nlp]
        exact el
    · obtain ⟨y, rfl, ep, el, sm⟩ := hq
      exact ⟨.ref p, rfl, q H3 p sm hp ep⟩
/-! ### deed -/
def spDeed : Sp := fun vs H Q _ => ∃ (a c : Addr) (m : Int), vs = [.ref a, .int m] ∧ 0 < m ∧ m ≤ 100 ∧ WL H a c ∧ ∀ H' r d, DeedOk m d → H' r = some (.tup (dV d)) → WL H' a c → Kp a c H H' → Q (.ref r) H'
theorem ok_deed {f fD fW : Addr} {fd fdD fdW : FuncData} {k : Nat} (F : Fun K "_law_deed" "_law_deed" s_law_deed f fd) (FD : Fun K "_law_draw" "_law_draw" s_law_draw fD fdD) (FW : Fun K "_law_first_words" "_law_first_words" s_law_first_words fW fdW)
    (bD : Binds K fdD ["well", "many"] []) (bW : Binds K fdW [] []) (gD : mg "_law_draw" = some (.ref fD)) (gW : mg "_law_first_words" = some (.ref fW)) (ml : mg "list" = none) (mt : mg "tuple" = none) (mr : mg "range" = none) :
    FnOk P w K mg base CX0 (k + 2) f fd ["well", "ahead"] spDeed := by
  have GD : FnOk P w K mg base CX0 (k + 1) fD fdD ["well", "many"] spDraw := ok_draw FD
  have GW : FnOk P w K mg base CX0 (k + 1) fW fdW [] spFw := ok_fw FW
  refine F.ok sc_law_deed (fun vs H Q E h => ?_) (fun cdv A outer s H vs Q E hr h => ?_)
  · obtain ⟨a, c, m, rfl, _⟩ := h
    rfl
  · obtain ⟨a, c, m, rfl, hm, hm2, hw, q⟩ := h
    refine ⟨_, pss_cons (ps_set (i := 2) sc_law_deed.nd rfl (.inl rfl) (pe_call0 GW hr (by rfl) gW FW.kp bW .nil pass0))
      (pss_cons (ps_set (i := 3) sc_law_deed.nd rfl (.inl rfl) (pe_ix ix_list (pe_callTy (call_list_dK rfl) (by rfl) ml (by decide +kernel) (pa_cons (pv 2) pa_nil)) (pe_call GD hr (by rfl) gD FD.kp bD .nil pass0 (pa_cons (pv 0) (pa_cons pe_int pa_nil))) (fun _ _ => rfl)))
      (pss_one (ps_ret (pe_op op_catT (pe_tup (pa_cons (pv 3) pa_nil)) (pe_callTy call_tuple_of (by rfl) mt (by decide +kernel) (pa_cons
        (pe_lc (own := [("k", 4)]) (g := gName 4) (by rfl) sc_law_deed.nd (pi_range1 (by rfl) mr (pa_cons (pe_dget (hu_of hr) (pv 2) (pv 3) (fun _ _ => rfl)) pa_nil)) (blkOk_by (own := [("k", 4)]) (N := N_law_deed) (sc := defScope s_law_deed) (by decide +kernel))
          (fun _ _ _ _ _ => pg_name (i := 4) sc_law_deed.nd rfl (Or.inl rfl)) (fun _ _ _ _ _ => pts_nil)
          (fun _ _ _ _ _ => pe_call GD hr (by rfl) gD FD.kp bD .nil pass0 (pa_cons (pv 0) (pa_cons (pv 1) pa_nil)))) pa_nil)))))), ?_⟩
    refine ⟨rfl, fun H1 p s1 hp e1 => ?_⟩
    refine ⟨.ref p, rfl, p, _, rfl, e1, fun L hL => ?_⟩
    have w1 : WL H1 a c := hw.same s1
    obtain ⟨nLa, nLc⟩ := w1.ne_new hL
    have nLp : L ≠ p := fun e => by
      rw [e, e1] at hL
      cases hL
    obtain ⟨npa, npc⟩ := hw.ne_new hp
    refine ⟨.ref a, rfl, a, c, 11, rfl, by decide, by decide, w1.upd nLa nLc, fun H2 z z0 z1 w2 k2 => ?_⟩
    obtain ⟨x, n, hmem, n0, n2, hat, hval⟩ := fw_at z0 z1
    have eL2 : H2 L = some (.lst (fwK.map fun kv => kV kv.1)) := k2 _ _ nLa nLc upd_same
    have ep2 : H2 p = some (.dK fwK) := k2 _ _ npa npc (by rw [upd_ne nLp.symm]; exact e1)
    refine ⟨L, _, z, .str x, rfl, rfl, .inl (.inl eL2), hat, ?_⟩
    refine ⟨.str x, rfl, by show 1 ≤ sizeLine; decide, fun U hU => ?_⟩
    obtain ⟨nUa, nUc⟩ := w2.ne_new hU
    have w3 : WL (upd H2 U (.tup [.str x])) a c := w2.upd nUa nUc
    have nUp : p ≠ U := ne_of_none ep2 hU
    refine ⟨.ref p, rfl, .str x, rfl, p, .int n, rfl, ?_, ?_⟩
    · rw [← hval]
      exact DGet.k (k := Sum.inr x) (by rw [upd_ne nUp]; exact ep2)
    have kH : Kp a c H (upd H2 U (.tup [.str x])) := fun b o n1 n2 e => by
      have e3 := k2 b o n1 n2 (by rw [upd_ne (ne_of_none (s1 b o e) hL)]; exact s1 b o e)
      rw [upd_ne (ne_of_none e3 hU)]
      exact e3
    refine ⟨n, rfl, by omega, by omega, fun D hD => ?_⟩
    obtain ⟨nDa, nDc⟩ := w3.ne_new hD
    have eU3 : upd H2 U (.tup [.str x]) U = some (.tup [.str x]) := upd_same
    have nDU : U ≠ D := ne_of_none eU3 hD
    refine lc_range (lo := 0) (n := n.toNat) (fun i H4 => ∃ zs : List Int, zs.length = i ∧ (∀ y ∈ zs, 0 ≤ y ∧ y < m) ∧ H4 D = some (.lst (zs.map V.int)) ∧ H4 U = some (.tup [.str x]) ∧ WL H4 a c ∧ Kp a c H H4) ⟨[], rfl, (fun _ z => nomatch z), upd_same, ?_, w3.upd nDa nDc, kH.trans (Same.kp (same_new hD))⟩ (fun i H4 hi hp => ?_) (fun H4 hp => ?_)
    · rw [upd_ne nDU]
      exact eU3
    · obtain ⟨zs, hz, hb, eD, eU, w4, k4⟩ := hp
      refine ⟨rfl, .ref a, rfl, .int m, rfl, a, c, m, rfl, hm, by omega, w4, fun H5 y y0 y1 w5 k5 => ?_⟩
      have eD5 := k5 _ _ nDa nDc eD
      refine ⟨_, eD5, ?_, zs ++ [y], ?_, ?_, ?_, ?_, w5.upd nDa nDc, ?_⟩
      · rw [List.length_map]
        exact small1000 (by omega)
      · rw [List.length_append, hz]
        rfl
      · intro y' hy'
        rcases List.mem_append.mp hy' with h | h
        · exact hb y' h
        · rw [List.mem_singleton.mp h]
          exact ⟨y0, y1⟩
      · rw [upd_same, List.map_append]
        rfl
      · rw [upd_ne nDU]
        exact k5.tup w4 eU
      · intro b o n1 n2 e
        have nbD : b ≠ D := by
          intro z
          have z1 := kH b o n1 n2 e
          rw [z, hD] at z1
          cases z1
        rw [upd_ne nbD]
        exact k5 b o n1 n2 (k4 b o n1 n2 e)
    · obtain ⟨zs, hz, hb, eD, eU, w4, k4⟩ := hp
      refine ⟨D, _, rfl, .inl ⟨.inl (.inl eD), fun T hT => ?_⟩⟩
      obtain ⟨nTa, nTc⟩ := w4.ne_new hT
      have sT : Same H4 (upd H4 T (.tup (zs.map V.int))) := same_new hT
      have eU6 : upd H4 T (.tup (zs.map V.int)) U = some (.tup [.str x]) := sT _ _ eU
      have hl : (zs.length : Int) = n := by omega
      have ok : DeedOk m (x, zs) := ⟨by rw [show ((x, zs) : Deed).2.length = zs.length from rfl, hl]; exact hmem, hb⟩
      refine ⟨U, T, _, _, rfl, rfl, SqT.of eU6, SqT.of upd_same, (fun z => nomatch z), ?_, fun e => ?_, fun e p hp => ?_⟩
      · rw [List.length_map]
        exact Nat.le_of_lt (small1000 (by show 1 + zs.length ≤ 1000; omega))
      · have e0 : zs = [] := List.map_eq_nil_iff.mp e
        refine q _ U (x, zs) ok ?_ (w4.upd nTa nTc) (k4.trans (Same.kp sT))
        rw [e0]
        rw [e0] at eU6
        exact eU6
      · have w6 := w4.upd (o := .tup (zs.map V.int)) nTa nTc
        obtain ⟨n1, n2⟩ := w6.ne_new hp
        exact q _ p (x, zs) ok upd_same (w6.upd n1 n2) ((k4.trans (Same.kp sT)).trans (Same.kp (same_new hp)))
/-! ### row -/
def spRow : Sp := fun vs H Q _ => ∃ (a c : Addr) (m n : Int), vs = [.ref a, .int m, .int n] ∧ 1 ≤ m ∧ m ≤ 3 ∧ 0 ≤ n ∧ n ≤ 8 ∧ WL H a c ∧
  ∀ H' R ds o, RowAt H' R m ds o → RowOk m ds o → (ds.length : Int) ≤ n → WL H' a c → Kp a c H H' → Q (.ref R) H'
theorem ok_row {f fD fE : Addr} {fd fdD fdE : FuncData} {k : Nat} (F : Fun K "_law_row" "_law_row" s_law_row f fd) (GD : FnOk P w K mg base CX0 (k + 1) fD fdD ["well", "many"] spDraw) (kD : PySem.W.keepIn K (.ref fD) = true)
    (GE : FnOk P w K mg base CX0 (k + 2) fE fdE ["well", "ahead"] spDeed) (kE : PySem.W.keepIn K (.ref fE) = true)
    (bD : Binds K fdD ["well", "many"] []) (bE : Binds K fdE ["well", "ahead"] []) (gD : mg "_law_draw" = some (.ref fD)) (gE : mg "_law_deed" = some (.ref fE)) (mt : mg "tuple" = none) (mr : mg "range" = none) :
    FnOk P w K mg base CX0 (k + 3) f fd ["well", "many", "most"] spRow := by
  refine F.ok sc_law_row (fun vs H Q E h => ?_) (fun cdv A outer s H vs Q E hr h => ?_)
  · obtain ⟨a, c, m, n, rfl, _⟩ := h
    rfl
  · obtain ⟨a, c, m, n, rfl, hm, hm2, hn, hn2, hw, q⟩ := h
    have hr1 := hr.mono (show k + 1 ≤ k + 2 by omega)
    refine ⟨_, pss_cons (ps_set (i := 3) sc_law_row.nd rfl (.inl rfl) (pe_call GD hr1 (by rfl) gD kD bD .nil pass0 (pa_cons (pv 0) (pa_cons (pe_op op_add (pv 2) pe_int) pa_nil))))
      (pss_cons (ps_set (i := 4) sc_law_row.nd rfl (.inl rfl) (pe_cmpR op_gt (pe_call GD hr1 (by rfl) gD kD bD .nil pass0 (pa_cons (pv 0) (pa_cons pe_int pa_nil))) pe_int (nomark _)))
      (pss_cons (ps_set (i := 5) sc_law_row.nd rfl (.inl rfl) (pe_lst pa_nil))
      (pss_cons (ps_for PassesOwn.never rfl (pi_range1 (by rfl) mr (pa_cons (pv 3) pa_nil)) (pg_name (i := 6) sc_law_row.nd rfl (.inl rfl))
        (pss_one (ps_expr (pe_bm PySem.F.plainAttrs_list PySem.F.slot_list_append PySem.F.type_list_append mt_append (pv 5) (pa_cons (pe_call GE hr (by rfl) gE kE bE .nil pass0 (pa_cons (pv 0) (pa_cons (pe_op op_add (pv 1) (pv 6)) pa_nil))) pa_nil)))))
      (pss_cons (ps_set (i := 7) sc_law_row.nd rfl (.inl rfl) (pe_op op_sub (pe_op op_add (pv 1) (pv 3)) pe_int))
      (pss_mid (ps_if (pt_not (pt_val (pv 4))) (pss_one (ps_set (i := 7) sc_law_row.nd rfl (.inl rfl) (pe_call GD hr1 (by rfl) gD kD bD .nil pass0 (pa_cons (pv 0) (pa_cons (pe_op op_add (pv 1) (pv 3)) pa_nil))))) pss_nil)
      (pss_one (ps_ret (pe_tup (pa_cons (pv 1) (pa_cons (pe_callTy call_tuple_of (by rfl) mt (by decide +kernel) (pa_cons (pv 5) pa_nil)) (pa_cons (pv 7) pa_nil))))))))))), ?_⟩
    refine ⟨.ref a, rfl, .int n, rfl, n, 1, rfl, rfl, a, c, n + 1, rfl, by omega, by omega, hw, fun H1 sz z0 z1 w1 k1 => ?_⟩
    refine ⟨.ref a, rfl, a, c, 4, rfl, by decide, by decide, w1, fun H2 la l0 l1 w2 k2 => ?_⟩
    refine ⟨la, 0, rfl, rfl, Nat.zero_le _, fun D hD => ?_⟩
    obtain ⟨nDa, nDc⟩ := w2.ne_new hD
    have kH : Kp a c H H2 := k1.trans k2
    refine ⟨.int sz, rfl, sz, rfl, by omega, by omega, for_range (lo := 0) (n := sz.toNat) (fun i σ H3 => ∃ y rs ds, σ = [some (.ref a), some (.int m), some (.int n), some (.int sz), some (.bl (decide (la > 0))), some (.ref D), y, none] ∧ H3 D = some (.lst (rs.map V.ref)) ∧ DsAt H3 rs ds ∧ ds.length = i ∧ DsOk m ds ∧ WL H3 a c ∧ Kp a c H H3)
      ⟨none, [], [], rfl, upd_same, .nil, rfl, ⟨fun k d e => by simp at e⟩, w2.upd nDa nDc, kH.trans (Same.kp (same_new hD))⟩ (fun i σ H3 hi hp => ?_) (fun σ H3 hp => ?_)⟩
    · obtain ⟨y, rs, ds, rfl, eD, hd, hl, ok, w3, k3⟩ := hp
      refine ⟨.ref D, rfl, .inl ⟨rfl, _, .inl (.inl eD)⟩, .ref a, rfl, .int m, rfl, .int (0 + i), rfl, m, 0 + i, rfl, rfl, a, c, _, rfl, by omega, by omega, w3, fun H4 r d hok er w4 k4 => ?_⟩
      have eD4 := k4 _ _ nDa nDc eD
      refine ⟨D, _, _, rfl, rfl, eD4, ?_, some (.int (0 + i)), rs ++ [r], ds ++ [d], rfl, ?_, ?_, ?_, ?_, w4.upd nDa nDc, ?_⟩
      · rw [List.length_map, awLen hd]
        exact small1000 (by omega)
      · rw [upd_same, List.map_append]
        rfl
      · exact (tups_put eD4).ds (awSnoc (F := fun r d => H4 r = some (.tup (dV d))) er ((k4.tups w3).ds hd))
      · rw [List.length_append, hl]
        rfl
      · refine dsOk_snoc ok ?_
        rw [hl]
        have : m + (0 + (i : Int)) = m + i := by omega
        rw [this] at hok
        exact hok
      · intro b o n1 n2 e
        have nbD : b ≠ D := by
          intro z
          have z1 := kH b o n1 n2 e
          rw [z, hD] at z1
          cases z1
        rw [upd_ne nbD]
        exact k4 b o n1 n2 (k3 b o n1 n2 e)
    · obtain ⟨y, rs, ds, rfl, eD, hd, hl, ok, w3, k3⟩ := hp
      refine ⟨.int m, rfl, .int sz, rfl, m, sz, rfl, rfl, _, 1, rfl, rfl, ?_⟩
      refine ⟨fun σ4 H4 => ∃ o, σ4 = [some (.ref a), some (.int m), some (.int n), some (.int sz), some (.bl (decide (la > 0))), some (.ref D), y, some (.int o)] ∧ 0 ≤ o ∧ o < m + sz ∧ H4 D = some (.lst (rs.map V.ref)) ∧ DsAt H4 rs ds ∧ WL H4 a c ∧ Kp a c H H4, ?_, ?_⟩
      · refine ⟨_, rfl, _, rfl, ?_⟩
        by_cases hla : la > 0
        · rw [decide_eq_true hla]
          exact ⟨m + sz - 1, rfl, by omega, by omega, eD, hd, w3, k3⟩
        · rw [decide_eq_false hla]
          refine ⟨.ref a, rfl, .int m, rfl, .int sz, rfl, m, sz, rfl, rfl, a, c, _, rfl, by omega, by omega, w3, fun H4 o o0 o1 w4 k4 => ?_⟩
          exact ⟨o, rfl, o0, o1, k4 _ _ nDa nDc eD, (k4.tups w3).ds hd, w4, k3.trans k4⟩
      · rintro σ4 H4 ⟨o, rfl, o0, o1, eD4, hd4, w4, k4⟩
        refine ⟨.int m, rfl, .ref D, rfl, D, _, rfl, .inl ⟨.inl (.inl eD4), fun T hT => ?_⟩⟩
        refine ⟨.int o, rfl, by show 3 ≤ sizeLine; decide, fun R hR => ?_⟩
        have s1 : Same H4 (upd H4 T (.tup (rs.map V.ref))) := same_new hT
        have s2 := same_new (o := .tup [.int m, .ref T, .int o]) hR
        obtain ⟨n1, n2⟩ := w4.ne_new hT
        have w5 := w4.upd (o := .tup (rs.map V.ref)) n1 n2
        obtain ⟨n3, n4⟩ := w5.ne_new hR
        refine q _ R ds o ⟨T, rs, upd_same, s2 _ _ upd_same, (Same.tups (s1.trans s2)).ds hd4⟩ ⟨hm, hm2, by omega, ok, o0, by omega⟩ (by omega) (w5.upd n3 n4) (k4.trans (Same.kp (s1.trans s2)))
/-! ### first_carry -/
def spFc : Sp := fun vs H Q _ => ∃ (R : Addr) (m o : Int) (ds : List Deed), vs = [.ref R] ∧ RowAt H R m ds o ∧ ds.length ≤ 100 ∧ ∀ H' p, Same H H' → H p = none → H' p = some (.tup ((ds.map fcD).map V.int)) → Q (.ref p) H'
theorem ok_fc {f : Addr} {fd : FuncData} {k : Nat} (F : Fun K "first_carry" "first_carry" s_first_carry f fd) (mt : mg "tuple" = none) : FnOk P w K mg base CX0 (k + 1) f fd ["row"] spFc := by
  refine F.ok sc_first_carry (fun vs H Q E h => ?_) (fun cdv A outer s H vs Q E hr h => ?_)
  · obtain ⟨R, m, o, ds, rfl, _⟩ := h
    rfl
  · obtain ⟨R, m, o, ds, rfl, hrow, hl, q⟩ := h
    obtain ⟨D, rs, eR, eD, hd⟩ := id hrow
    refine ⟨_, pss_one (ps_ret (pe_callTy call_tuple_of (by rfl) mt (by decide +kernel) (pa_cons
      (pe_lc (own := [("deed", 1)]) (g := gName 1) (by rfl) sc_first_carry.nd (pi_tup (pe_ix ix_tup (pv 0) pe_int (fun _ _ => rfl))) (blkOk_by (own := [("deed", 1)]) (N := N_first_carry) (sc := defScope s_first_carry) (by decide +kernel))
        (fun _ _ _ _ _ => pg_name (i := 1) sc_first_carry.nd rfl (Or.inl rfl)) (fun _ _ _ _ _ => pts_nil)
        (fun _ _ _ _ _ => pe_ifExp (pt_cmpR (r := rIn K false) op_in_seq (pe_ix (r := rIxT K) ix_tup (pv 1) pe_int (fun _ _ => rfl)) (pe_tup (pa_cons pe_str (pa_cons pe_str pa_nil))) (by rfl)) pe_int pe_int)) pa_nil))), ?_⟩
    refine ⟨.ref R, rfl, R, _, 1, .ref D, rfl, rfl, SqT.of eR, rfl, D, rfl, ⟨_, SqT.of eD⟩, fun L hL => ?_⟩
    refine lc_tup (K := K) (a := D) (xs := rs.map V.ref) (fun i H4 => H4 L = some (.lst (((ds.take i).map fcD).map V.int)) ∧ Same H H4) ⟨upd_same, same_new hL⟩ (fun i H4 _ hp => SqT.of (hp.2 _ _ eD)) (fun i x H4 hx hp => ?_) (fun H4 hp => ?_)
    · obtain ⟨eL, sm⟩ := hp
      have hi : i < rs.length := by
        have := (List.getElem?_eq_some_iff.mp hx).1
        rwa [List.length_map] at this
      have hx' : x = .ref rs[i] := by
        rw [List.getElem?_map, List.getElem?_eq_getElem hi] at hx
        exact (Option.some.inj hx).symm
      subst hx'
      obtain ⟨d, hd1, hd2⟩ := awGet hd (List.getElem?_eq_getElem hi)
      refine ⟨rfl, .ref rs[i], rfl, rs[i], _, 0, .str d.1, rfl, rfl, SqT.of (sm _ _ hd2), dv0 d, by show 2 ≤ sizeLine; decide, fun T hT => ?_⟩
      have sT := same_new (o := .tup [.str "neg", .str "one"]) hT
      have eL2 := sT _ _ eL
      have old : ∀ o, Same H (upd (upd H4 T (.tup [.str "neg", .str "one"])) L o) := fun o b u e => by
        rw [upd_ne (ne_of_none e hL)]
        exact sT b u (sm b u e)
      have small : (((ds.take i).map fcD).map V.int).length < sizeLine := by
        rw [List.length_map, List.length_map, List.length_take]
        exact small1000 (by omega)
      have hin := inS d.1 ["neg", "one"]
      refine ⟨T, _, rfl, .inr (SqT.of upd_same), rfl, rfl, _, rfl, ite2 (fun e => ?_) (fun e => ?_)⟩
      · have hm : d.1 ∈ (["neg", "one"] : List Str) := of_decide_eq_true (hin.symm.trans e)
        have e1 : fcD d = 1 := if_pos hm
        refine ⟨_, eL2, small, ?_, old _⟩
        rw [upd_same, List.take_add_one, hd1]
        simp [e1]
      · have hm : ¬ d.1 ∈ (["neg", "one"] : List Str) := fun z => e (hin.trans (decide_eq_true z))
        have e1 : fcD d = 0 := if_neg hm
        refine ⟨_, eL2, small, ?_, old _⟩
        rw [upd_same, List.take_add_one, hd1]
        simp [e1]
    · obtain ⟨eL, sm⟩ := hp
      rw [List.length_map, awLen hd, List.take_length] at eL
      refine ⟨L, _, rfl, .inl ⟨.inl (.inl eL), fun p hp => ?_⟩⟩
      exact q _ p (sm.trans (same_new hp)) (sm.free hp) upd_same
/-! ### deed_bit, bits_of -/
def spDb (K : PySem.W.Frag) : Sp := fun vs H Q _ => ∃ (r L : Addr) (d : Deed) (told : List Int) (c : Int), vs = [.ref r, .int c, .ref L] ∧ H r = some (.tup (dV d)) ∧ SqL K H L (told.map V.int) ∧ DeedOk told.length d ∧ Q (.int (dbitAt d c told)) H
theorem ok_db {f : Addr} {fd : FuncData} {k : Nat} (F : Fun K "deed_bit" "deed_bit" s_deed_bit f fd) : FnOk P w K mg base CX0 (k + 1) f fd ["deed", "held", "told"] (spDb K) := by
  refine F.ok sc_deed_bit (fun vs H Q E h => ?_) (fun cdv A outer s H vs Q E hr h => ?_)
  · obtain ⟨r, L, d, told, c, rfl, _⟩ := h
    rfl
  · obtain ⟨r, L, d, told, c, rfl, er, eL, ok, q⟩ := h
    refine ⟨_, pss_cons (ps_set (i := 3) sc_deed_bit.nd rfl (.inl rfl) (pe_ix ix_tup (pv 0) pe_int (fun _ _ => rfl)))
      (pss_cons (ps_if (pt_cmpR op_eq (pv 3) pe_str (nomark _)) (pss_one (ps_ret pe_int)) pss_nil)
      (pss_cons (ps_if (pt_cmpR op_eq (pv 3) pe_str (nomark _)) (pss_one (ps_ret pe_int)) pss_nil)
      (pss_cons (ps_if (PW.pt (pw_or (pt_cmpR op_eq (pv 3) pe_str (nomark _)) (pw_or1 (pt_cmpR op_eq (pv 3) pe_str (nomark _))))) (pss_one (ps_ret (pv 1))) pss_nil)
      (pss_cons (ps_set (i := 4) sc_deed_bit.nd rfl (.inl rfl) (pe_ix ix_list (pv 2) (pe_ix ix_tup (pv 0) pe_int (fun _ _ => rfl)) (fun _ _ => rfl)))
      (pss_cons (ps_if (pt_cmpR op_eq (pv 3) pe_str (nomark _)) (pss_one (ps_ret (pe_op op_sub pe_int (pv 4)))) pss_nil)
      (pss_cons (ps_if (pt_cmpR op_eq (pv 3) pe_str (nomark _)) (pss_one (ps_ret (pe_op op_xor (pe_op op_sub pe_int (pv 4)) (pv 1)))) pss_nil)
      (pss_cons (ps_set (i := 5) sc_deed_bit.nd rfl (.inl rfl) (pe_ix ix_list (pv 2) (pe_ix ix_tup (pv 0) pe_int (fun _ _ => rfl)) (fun _ _ => rfl)))
      (pss_cons (ps_if (pt_cmpR op_eq (pv 3) pe_str (nomark _)) (pss_one (ps_ret (pe_op op_and (pv 4) (pv 5)))) pss_nil)
      (pss_cons (ps_if (pt_cmpR op_eq (pv 3) pe_str (nomark _)) (pss_one (ps_ret (pe_op op_or (pv 4) (pv 5)))) pss_nil)
      (pss_cons (ps_if (pt_cmpR op_eq (pv 3) pe_str (nomark _)) (pss_one (ps_ret (pe_op op_xor (pv 4) (pv 5)))) pss_nil)
      (pss_one (ps_ret (pe_op op_xor (pe_op op_xor (pv 4) (pv 5)) (pv 1)))))))))))))), ?_⟩
    unfold dbitAt dbit at q
    refine ⟨.ref r, rfl, r, _, 0, .str d.1, rfl, rfl, SqT.of er, dv0 d, ?_⟩
    refine ⟨.str d.1, rfl, rfl, _, rfl, ite2 (fun e => ?_) (fun n1 => ?_)⟩
    · rw [if_pos (strEq e)] at q
      exact q
    rw [if_neg (strNe n1)] at q
    refine ⟨.str d.1, rfl, rfl, _, rfl, ite2 (fun e => ?_) (fun n2 => ?_)⟩
    · rw [if_pos (strEq e)] at q
      exact q
    rw [if_neg (strNe n2)] at q
    refine ⟨.str d.1, rfl, rfl, _, rfl, ite2 (fun e => ?_) (fun n3 => ?_)⟩
    · rw [if_pos (strEq e)] at q
      exact ⟨.int c, rfl, q⟩
    rw [if_neg (strNe n3)] at q
    refine ⟨.str d.1, rfl, rfl, _, rfl, ite2 (fun e => ?_) (fun n4 => ?_)⟩
    · rw [if_pos (strEq e)] at q
      exact ⟨.int c, rfl, q⟩
    rw [if_neg (strNe n4)] at q
    obtain ⟨i, hi, ai, ei⟩ := arg1 ok (strNe n1) (strNe n3) (strNe n2)
    refine ⟨.ref L, rfl, .ref r, rfl, r, _, 1, .int i, rfl, rfl, SqT.of er, dvN (k := 0) hi, L, _, i, .int (argAt d told 0), rfl, rfl, eL, ei, ?_⟩
    refine ⟨.str d.1, rfl, rfl, _, rfl, ite2 (fun e => ?_) (fun n5 => ?_)⟩
    · rw [if_pos (strEq e)] at q
      exact ⟨.int _, rfl, 1, _, rfl, rfl, q⟩
    rw [if_neg (strNe n5)] at q
    refine ⟨.str d.1, rfl, rfl, _, rfl, ite2 (fun e => ?_) (fun n6 => ?_)⟩
    · rw [if_pos (strEq e)] at q
      exact ⟨.int _, rfl, 1, _, rfl, rfl, .int c, rfl, _, _, rfl, rfl, q⟩
    rw [if_neg (strNe n6)] at q
    obtain ⟨j, hj, aj, ej⟩ := arg2 ok (strNe n1) (strNe n3) (strNe n2) (strNe n5) (strNe n6) (strNe n4)
    refine ⟨.ref L, rfl, .ref r, rfl, r, _, 2, .int j, rfl, rfl, SqT.of er, dvN (k := 1) hj, L, _, j, .int (argAt d told 1), rfl, rfl, eL, ej, ?_⟩
    refine ⟨.str d.1, rfl, rfl, _, rfl, ite2 (fun e => ?_) (fun n7 => ?_)⟩
    · rw [if_pos (strEq e)] at q
      exact ⟨.int _, rfl, .int _, rfl, _, _, rfl, rfl, q⟩
    rw [if_neg (strNe n7)] at q
    refine ⟨.str d.1, rfl, rfl, _, rfl, ite2 (fun e => ?_) (fun n8 => ?_)⟩
    · rw [if_pos (strEq e)] at q
      exact ⟨.int _, rfl, .int _, rfl, _, _, rfl, rfl, q⟩
    rw [if_neg (strNe n8)] at q
    refine ⟨.str d.1, rfl, rfl, _, rfl, ite2 (fun e => ?_) (fun n9 => ?_)⟩
    · rw [if_pos (strEq e)] at q
      exact ⟨.int _, rfl, .int _, rfl, _, _, rfl, rfl, q⟩
    rw [if_neg (strNe n9)] at q
    exact ⟨.int _, rfl, .int _, rfl, _, _, rfl, rfl, .int c, rfl, _, _, rfl, rfl, q⟩
def spBo : Sp := fun vs H Q _ => ∃ (R C B : Addr) (m o : Int) (ds : List Deed) (cs bs : List Int), vs = [.ref R, .ref C, .ref B] ∧ RowAt H R m ds o ∧ DsOk m ds ∧ ds.length ≤ 100 ∧ H C = some (.tup (cs.map V.int)) ∧ cs.length = ds.length ∧ H B = some (.tup (bs.map V.int)) ∧ (bs.length : Int) = m ∧ bs.length ≤ 100 ∧
  ∀ H' p, Same H H' → H p = none → H' p = some (.tup ((bts ds cs bs).map V.int)) → Q (.ref p) H'
theorem ok_bo {f fB : Addr} {fd fdB : FuncData} {k : Nat} (F : Fun K "bits_of" "bits_of" s_bits_of f fd) (GB : FnOk P w K mg base CX0 (k + 1) fB fdB ["deed", "held", "told"] (spDb K)) (kB : PySem.W.keepIn K (.ref fB) = true) (bB : Binds K fdB ["deed", "held", "told"] []) (gB : mg "deed_bit" = some (.ref fB))
    (ml : mg "list" = none) (mt : mg "tuple" = none) (mz : mg "zip" = none) : FnOk P w K mg base CX0 (k + 2) f fd ["row", "carry", "bits"] spBo := by
  refine F.ok sc_bits_of (fun vs H Q E h => ?_) (fun cdv A outer s H vs Q E hr h => ?_)
  · obtain ⟨R, C, B, m, o, ds, cs, bs, rfl, _⟩ := h
    rfl
  · obtain ⟨R, C, B, m, o, ds, cs, bs, rfl, hrow, hok, hds, eC, hcl, eB, hm, hbl, q⟩ := h
    obtain ⟨D, rs, eR, eD, hd⟩ := id hrow
    refine ⟨_, pss_cons (ps_set (i := 3) sc_bits_of.nd rfl (.inl rfl) (pe_callTy call_list_of (by rfl) ml (by decide +kernel) (pa_cons (pv 2) pa_nil)))
      (pss_cons (ps_for PassesOwn.never rfl (RZ.pi_zipA (by rfl) mz (pa_cons (pe_ix ix_tup (pv 0) pe_int (fun _ _ => rfl)) (pa_cons (pv 1) pa_nil))) (pg_tup rfl (pgs_cons (pg_name (i := 4) sc_bits_of.nd rfl (.inl rfl)) (pgs_cons (pg_name (i := 5) sc_bits_of.nd rfl (.inl rfl)) pgs_nil)))
        (pss_one (ps_expr (pe_bm PySem.F.plainAttrs_list PySem.F.slot_list_append PySem.F.type_list_append mt_append (pv 3) (pa_cons (pe_call GB hr (by rfl) gB kB bB .nil pass0 (pa_cons (pv 4) (pa_cons (pv 5) (pa_cons (pv 3) pa_nil)))) pa_nil)))))
      (pss_one (ps_ret (pe_callTy call_tuple_of (by rfl) mt (by decide +kernel) (pa_cons (pv 3) pa_nil))))), ?_⟩
    refine ⟨.ref B, rfl, B, _, rfl, .inr (SqT.of eB), fun L hL => ?_⟩
    have sL := same_new (o := .lst (bs.map V.int)) hL
    have lrs : (rs.map V.ref).length = ds.length := by rw [List.length_map, awLen hd]
    have lcs : (cs.map V.int).length = ds.length := by rw [List.length_map, hcl]
    refine ⟨.ref R, rfl, R, _, 1, .ref D, rfl, rfl, SqT.of (sL _ _ eR), rfl, .ref C, rfl, D, C, _, _, rfl, .inr ⟨SqT.of (sL _ _ eD), SqT.of (sL _ _ eC), RZ.for_zipT (K := K) (xs := rs.map V.ref) (ys := cs.map V.int) (lrs.trans lcs.symm) (fun i σ H3 => ∃ y4 y5, σ = [some (.ref R), some (.ref C), some (.ref B), some (.ref L), y4, y5] ∧ H3 L = some (.lst ((bts (ds.take i) (cs.take i) bs).map V.int)) ∧ Same H H3) ⟨none, none, rfl, by rw [upd_same]; cases ds <;> rfl, sL⟩ (fun i σ H3 hp => ?_) (fun i x y T σ H3 hx hy hp hT => ?_) (fun σ H3 hp => ?_)⟩⟩
    · obtain ⟨_, _, _, _, sm⟩ := hp
      exact ⟨SqT.of (sm _ _ eD), SqT.of (sm _ _ eC)⟩
    · obtain ⟨y4, y5, rfl, e3, sm⟩ := hp
      have hi : i < rs.length := by
        have := (List.getElem?_eq_some_iff.mp hx).1
        rwa [List.length_map] at this
      have hx' : x = .ref rs[i] := by
        rw [List.getElem?_map, List.getElem?_eq_getElem hi] at hx
        exact (Option.some.inj hx).symm
      subst hx'
      obtain ⟨d, hd1, hd2⟩ := awGet hd (List.getElem?_eq_getElem hi)
      obtain ⟨c, hc, rfl⟩ : ∃ c, cs[i]? = some c ∧ y = .int c := by
        rw [List.getElem?_map] at hy
        cases e : cs[i]? with
        | none => rw [e] at hy; cases hy
        | some c => rw [e] at hy; exact ⟨c, rfl, (Option.some.inj hy).symm⟩
      have h2 : i < ds.length := by
        rw [← awLen hd]
        exact hi
      have hlen : (bts (ds.take i) (cs.take i) bs).length = bs.length + i := by
        rw [bts_len (by rw [List.length_take, List.length_take, hcl]), List.length_take, Nat.min_eq_left (Nat.le_of_lt h2)]
      have okd : DeedOk (bts (ds.take i) (cs.take i) bs).length d := by
        rw [hlen]
        have := hok.each i d hd1
        rw [← hm] at this
        exact this
      have sT := same_new (o := .tup [.ref rs[i], .int c]) hT
      have e4 := sT _ _ e3
      refine ⟨T, [.ref rs[i], .int c], rfl, .inl (.inl upd_same), rfl, .ref rs[i], [.int c], rfl, .int c, [], rfl, rfl, ?_⟩
      refine ⟨.ref L, rfl, .inl ⟨rfl, _, .inl (.inl e4)⟩, .ref rs[i], rfl, .int c, rfl, .ref L, rfl, rs[i], L, d, _, c, rfl, sT _ _ (sm _ _ hd2), .inl (.inl e4), okd, L, _, _, rfl, rfl, e4, ?_, some (.ref rs[i]), some (.int c), rfl, ?_, ?_⟩
      · rw [List.length_map, hlen]
        exact small1000 (by omega)
      · rw [upd_same, bts_next hd1 hc, List.map_append]
        rfl
      · intro b u e
        rw [upd_ne (ne_of_none e hL)]
        exact sT b u (sm b u e)
    · obtain ⟨y4, y5, rfl, e3, sm⟩ := hp
      rw [lrs, List.take_length, ← hcl, List.take_length] at e3
      refine ⟨.ref L, rfl, L, _, rfl, .inl ⟨.inl (.inl e3), fun p hp => ?_⟩⟩
      exact q _ p (sm.trans (same_new hp)) (sm.free hp) upd_same
/-! ### two_or_more, deed_carry -/
def spTm : Sp := fun vs H Q _ => ∃ a b c : Int, vs = [.int a, .int b, .int c] ∧ Q (.int ((a + b + c) / 2)) H
theorem ok_tm {f : Addr} {fd : FuncData} {k : Nat} (F : Fun K "two_or_more" "two_or_more" s_two_or_more f fd) : FnOk P w K mg base CX0 (k + 1) f fd ["one", "other", "third"] spTm := by
  refine F.ok sc_two_or_more (fun vs H Q E h => ?_) (fun cdv A outer s H vs Q E hr h => ?_)
  · obtain ⟨a, b, c, rfl, _⟩ := h
    rfl
  · obtain ⟨a, b, c, rfl, q⟩ := h
    refine ⟨_, pss_one (ps_ret (pe_op op_fdiv (pe_op op_add (pe_op op_add (pv 0) (pv 1)) (pv 2)) pe_int)), ?_⟩
    exact ⟨.int a, rfl, .int b, rfl, a, b, rfl, rfl, .int c, rfl, _, c, rfl, rfl, _, 2, rfl, rfl, ⟨by decide, by decide⟩, q⟩
def spDc : Sp := fun vs H Q _ => ∃ (r L : Addr) (d : Deed) (told : List Int) (c : Int), vs = [.ref r, .int c, .ref L] ∧ H r = some (.tup (dV d)) ∧ H L = some (.tup (told.map V.int)) ∧ DeedOk told.length d ∧ Q (.int (dcarAt d c told)) H
theorem ok_dc {f fT : Addr} {fd fdT : FuncData} {k : Nat} (F : Fun K "deed_carry" "deed_carry" s_deed_carry f fd) (GT : FnOk P w K mg base CX0 (k + 1) fT fdT ["one", "other", "third"] spTm) (kT : PySem.W.keepIn K (.ref fT) = true) (bT : Binds K fdT ["one", "other", "third"] []) (gT : mg "two_or_more" = some (.ref fT)) :
    FnOk P w K mg base CX0 (k + 2) f fd ["deed", "held", "told"] spDc := by
  refine F.ok sc_deed_carry (fun vs H Q E h => ?_) (fun cdv A outer s H vs Q E hr h => ?_)
  · obtain ⟨r, L, d, told, c, rfl, _⟩ := h
    rfl
  · obtain ⟨r, L, d, told, c, rfl, er, eL, ok, q⟩ := h
    refine ⟨_, pss_cons (ps_set (i := 3) sc_deed_carry.nd rfl (.inl rfl) (pe_ix ix_tup (pv 0) pe_int (fun _ _ => rfl)))
      (pss_cons (ps_if (pt_cmpR op_eq (pv 3) pe_str (nomark _)) (pss_one (ps_ret (pe_op op_and (pe_op op_sub pe_int (pe_ix ix_tup (pv 2) (pe_ix ix_tup (pv 0) pe_int (fun _ _ => rfl)) (fun _ _ => rfl))) (pv 1)))) pss_nil)
      (pss_cons (ps_if (pt_cmpR op_eq (pv 3) pe_str (nomark _)) (pss_one (ps_ret (pe_ix ix_tup (pv 2) (pe_ix ix_tup (pv 0) pe_int (fun _ _ => rfl)) (fun _ _ => rfl)))) pss_nil)
      (pss_cons (ps_if (pt_cmpR op_eq (pv 3) pe_str (nomark _)) (pss_one (ps_ret (pe_call GT hr (by rfl) gT kT bT .nil pass0 (pa_cons (pe_ix ix_tup (pv 2) (pe_ix ix_tup (pv 0) pe_int (fun _ _ => rfl)) (fun _ _ => rfl)) (pa_cons (pe_ix ix_tup (pv 2) (pe_ix ix_tup (pv 0) pe_int (fun _ _ => rfl)) (fun _ _ => rfl)) (pa_cons (pv 1) pa_nil)))))) pss_nil)
      (pss_cons (ps_if (pt_cmpR op_eq (pv 3) pe_str (nomark _)) (pss_one (ps_ret (pe_call GT hr (by rfl) gT kT bT .nil pass0 (pa_cons (pe_op op_sub pe_int (pe_ix ix_tup (pv 2) (pe_ix ix_tup (pv 0) pe_int (fun _ _ => rfl)) (fun _ _ => rfl))) (pa_cons (pe_ix ix_tup (pv 2) (pe_ix ix_tup (pv 0) pe_int (fun _ _ => rfl)) (fun _ _ => rfl)) (pa_cons (pv 1) pa_nil)))))) pss_nil)
      (pss_one (ps_ret pe_int)))))), ?_⟩
    unfold dcarAt dcar at q
    have lL : SqT K H L (told.map V.int) := SqT.of eL
    refine ⟨.ref r, rfl, r, _, 0, .str d.1, rfl, rfl, SqT.of er, dv0 d, ?_⟩
    refine ⟨.str d.1, rfl, rfl, _, rfl, ite2 (fun e => ?_) (fun n1 => ?_)⟩
    · rw [if_pos (strEq e)] at q
      have e2 := strEq e
      obtain ⟨i, hi, ai, ei⟩ := arg1 ok (by rw [e2]; decide +kernel) (by rw [e2]; decide +kernel) (by rw [e2]; decide +kernel)
      exact ⟨.ref L, rfl, .ref r, rfl, r, _, 1, .int i, rfl, rfl, SqT.of er, dvN (k := 0) hi, L, _, i, _, rfl, rfl, lL, ei, 1, _, rfl, rfl, .int c, rfl, _, _, rfl, rfl, q⟩
    rw [if_neg (strNe n1)] at q
    refine ⟨.str d.1, rfl, rfl, _, rfl, ite2 (fun e => ?_) (fun n2 => ?_)⟩
    · rw [if_pos (strEq e)] at q
      have e2 := strEq e
      obtain ⟨i, hi, ai, ei⟩ := arg1 ok (by rw [e2]; decide +kernel) (by rw [e2]; decide +kernel) (by rw [e2]; decide +kernel)
      exact ⟨.ref L, rfl, .ref r, rfl, r, _, 1, .int i, rfl, rfl, SqT.of er, dvN (k := 0) hi, L, _, i, _, rfl, rfl, lL, ei, q⟩
    rw [if_neg (strNe n2)] at q
    refine ⟨.str d.1, rfl, rfl, _, rfl, ite2 (fun e => ?_) (fun n3 => ?_)⟩
    · rw [if_pos (strEq e)] at q
      have e2 := strEq e
      obtain ⟨i, hi, ai, ei⟩ := arg1 ok (by rw [e2]; decide +kernel) (by rw [e2]; decide +kernel) (by rw [e2]; decide +kernel)
      obtain ⟨j, hj, aj, ej⟩ := arg2 ok (by rw [e2]; decide +kernel) (by rw [e2]; decide +kernel) (by rw [e2]; decide +kernel) (by rw [e2]; decide +kernel) (by rw [e2]; decide +kernel) (by rw [e2]; decide +kernel)
      exact ⟨.ref L, rfl, .ref r, rfl, r, _, 1, .int i, rfl, rfl, SqT.of er, dvN (k := 0) hi, L, _, i, _, rfl, rfl, lL, ei, .ref L, rfl, .ref r, rfl, r, _, 2, .int j, rfl, rfl, SqT.of er, dvN (k := 1) hj, L, _, j, _, rfl, rfl, lL, ej, .int c, rfl, _, _, c, rfl, q⟩
    rw [if_neg (strNe n3)] at q
    refine ⟨.str d.1, rfl, rfl, _, rfl, ite2 (fun e => ?_) (fun n4 => ?_)⟩
    · rw [if_pos (strEq e)] at q
      have e2 := strEq e
      obtain ⟨i, hi, ai, ei⟩ := arg1 ok (by rw [e2]; decide +kernel) (by rw [e2]; decide +kernel) (by rw [e2]; decide +kernel)
      obtain ⟨j, hj, aj, ej⟩ := arg2 ok (by rw [e2]; decide +kernel) (by rw [e2]; decide +kernel) (by rw [e2]; decide +kernel) (by rw [e2]; decide +kernel) (by rw [e2]; decide +kernel) (by rw [e2]; decide +kernel)
      exact ⟨.ref L, rfl, .ref r, rfl, r, _, 1, .int i, rfl, rfl, SqT.of er, dvN (k := 0) hi, L, _, i, _, rfl, rfl, lL, ei, 1, _, rfl, rfl, .ref L, rfl, .ref r, rfl, r, _, 2, .int j, rfl, rfl, SqT.of er, dvN (k := 1) hj, L, _, j, _, rfl, rfl, lL, ej, .int c, rfl, _, _, c, rfl, q⟩
    rw [if_neg (strNe n4)] at q
    exact q
theorem okd_more {m : Int} {i n : Nat} {d : Deed} (h : DeedOk (m + i) d) (hn : m + i ≤ n) : DeedOk n d := ⟨h.word, fun z hz => ⟨(h.ahead z hz).1, by have := (h.ahead z hz).2; omega⟩⟩
/-! ### bits tell values -/
def bitA (t : Nat) (x : Int) : Int := x / 2 ^ t % 2
theorem bitA_bit (t : Nat) (x : Int) : Bit (bitA t x) := by
  have h0 := Int.emod_nonneg (x / 2 ^ t) (show (2 : Int) ≠ 0 by decide)
  have h1 := Int.emod_lt_of_pos (x / 2 ^ t) (show (0 : Int) < 2 by decide)
  unfold bitA Bit
  omega
/-- the bit at p -/
theorem bit_at {V p u k r : Int} (hp : 0 < p) (h : V = p * (2 * u + k) + r) (r0 : 0 ≤ r) (r1 : r < p) : V / p % 2 = k % 2 := by
  have e : V / p = 2 * u + k := by
    rw [h, Int.add_comm, Int.add_mul_ediv_left _ _ (by omega), Int.ediv_eq_zero_of_lt r0 r1, Int.zero_add]
  rw [e]
  omega
theorem bit_val {k : Int} (h : Bit k) : k % 2 = k := by rcases h with rfl | rfl <;> decide
theorem low_next (A : Int) {p : Int} (hp : 0 < p) : A % (2 * p) = p * (A / p % 2) + A % p := by
  have e := Int.mul_ediv_add_emod A p
  have e2 := Int.mul_ediv_add_emod (A / p) 2
  have r0 := Int.emod_nonneg A (show p ≠ 0 by omega)
  have r1 := Int.emod_lt_of_pos A hp
  have hb := bitA_bit 0 (A / p)
  have b : A / p % 2 = 0 ∨ A / p % 2 = 1 := by omega
  have e3 : A = 2 * p * (A / p / 2) + (p * (A / p % 2) + A % p) := by
    have z : p * (A / p) = p * (2 * (A / p / 2) + A / p % 2) := by rw [e2]
    rw [Int.mul_add, ← Int.mul_assoc, Int.mul_comm p 2] at z
    omega
  have s0 : 0 ≤ p * (A / p % 2) + A % p := by rcases b with b | b <;> rw [b] <;> omega
  have s1 : p * (A / p % 2) + A % p < 2 * p := by rcases b with b | b <;> rw [b] <;> omega
  generalize p * (A / p % 2) + A % p = s at e3 s0 s1
  rw [e3, Int.mul_add_emod_self_left, Int.emod_eq_of_lt s0 s1]
/-- what is carried into the bit at p -/
def CI (x : Str) (A B p c : Int) : Prop :=
  if x = "add" then ∃ r, A % p + B % p = p * c + r ∧ 0 ≤ r ∧ r < p
  else if x = "sub" then ∃ r, A % p - B % p = r - p * c ∧ 0 ≤ r ∧ r < p
  else if x = "neg" then ∃ r, -(A % p) = r - p * (1 - c) ∧ 0 ≤ r ∧ r < p
  else if x = "twice" then ∃ r, A % p + A % p = p * c + r ∧ 0 ≤ r ∧ r < p
  else if x = "one" then c = if p = 1 then 1 else 0
  else c = 0
theorem ci_first (d : Deed) (A B : Int) : CI d.1 A B 1 (fcD d) := by
  unfold CI fcD
  rw [Int.emod_one, Int.emod_one]
  by_cases h1 : d.1 = "add"
  · rw [if_pos h1, h1]
    exact ⟨0, by decide, by decide, by decide⟩
  rw [if_neg h1]
  by_cases h2 : d.1 = "sub"
  · rw [if_pos h2, h2]
    exact ⟨0, by decide, by decide, by decide⟩
  rw [if_neg h2]
  by_cases h3 : d.1 = "neg"
  · rw [if_pos h3, h3]
    exact ⟨0, by decide, by decide, by decide⟩
  rw [if_neg h3]
  by_cases h4 : d.1 = "twice"
  · rw [if_pos h4, h4]
    exact ⟨0, by decide, by decide, by decide⟩
  rw [if_neg h4]
  by_cases h5 : d.1 = "one"
  · rw [if_pos h5, h5]
    decide
  rw [if_neg h5, if_neg (by simp [h3, h5])]
theorem ci_next {x : Str} {A B p c : Int} (hp : 0 < p) (hc : Bit c) (h : CI x A B p c) : CI x A B (2 * p) (dcar x (A / p % 2) (B / p % 2) c) := by
  have ba : Bit (A / p % 2) := by unfold Bit; omega
  have bb : Bit (B / p % 2) := by unfold Bit; omega
  have la := low_next A hp
  have lb := low_next B hp
  have a0 := Int.emod_nonneg A (show p ≠ 0 by omega)
  have a1 := Int.emod_lt_of_pos A hp
  generalize A / p % 2 = α at la ba
  generalize B / p % 2 = β at lb bb
  unfold CI at h ⊢
  rw [la, lb]
  generalize A % p = a at h a0 a1
  generalize B % p = b at h
  by_cases h1 : x = "add"
  · subst h1
    rw [if_pos rfl] at h ⊢
    obtain ⟨r, e, r0, r1⟩ := h
    rcases ba with rfl | rfl <;> rcases bb with rfl | rfl <;> rcases hc with rfl | rfl
    · exact ⟨r, by show _ = 2 * p * 0 + r; omega, r0, by omega⟩
    · exact ⟨p + r, by show _ = 2 * p * 0 + (p + r); omega, by omega, by omega⟩
    · exact ⟨p + r, by show _ = 2 * p * 0 + (p + r); omega, by omega, by omega⟩
    · exact ⟨r, by show _ = 2 * p * 1 + r; omega, r0, by omega⟩
    · exact ⟨p + r, by show _ = 2 * p * 0 + (p + r); omega, by omega, by omega⟩
    · exact ⟨r, by show _ = 2 * p * 1 + r; omega, r0, by omega⟩
    · exact ⟨r, by show _ = 2 * p * 1 + r; omega, r0, by omega⟩
    · exact ⟨p + r, by show _ = 2 * p * 1 + (p + r); omega, by omega, by omega⟩
  rw [if_neg h1] at h ⊢
  by_cases h2 : x = "sub"
  · subst h2
    rw [if_pos rfl] at h ⊢
    obtain ⟨r, e, r0, r1⟩ := h
    rcases ba with rfl | rfl <;> rcases bb with rfl | rfl <;> rcases hc with rfl | rfl
    · exact ⟨r, by show _ = r - 2 * p * 0; omega, r0, by omega⟩
    · exact ⟨p + r, by show _ = (p + r) - 2 * p * 1; omega, by omega, by omega⟩
    · exact ⟨p + r, by show _ = (p + r) - 2 * p * 1; omega, by omega, by omega⟩
    · exact ⟨r, by show _ = r - 2 * p * 1; omega, r0, by omega⟩
    · exact ⟨p + r, by show _ = (p + r) - 2 * p * 0; omega, by omega, by omega⟩
    · exact ⟨r, by show _ = r - 2 * p * 0; omega, r0, by omega⟩
    · exact ⟨r, by show _ = r - 2 * p * 0; omega, r0, by omega⟩
    · exact ⟨p + r, by show _ = (p + r) - 2 * p * 1; omega, by omega, by omega⟩
  rw [if_neg h2] at h ⊢
  by_cases h3 : x = "neg"
  · subst h3
    rw [if_pos rfl] at h ⊢
    obtain ⟨r, e, r0, r1⟩ := h
    rcases ba with rfl | rfl <;> rcases hc with rfl | rfl
    · exact ⟨p + r, by show _ = (p + r) - 2 * p * (1 - 0); omega, by omega, by omega⟩
    · exact ⟨r, by show _ = r - 2 * p * (1 - 1); omega, r0, by omega⟩
    · exact ⟨r, by show _ = r - 2 * p * (1 - 0); omega, r0, by omega⟩
    · exact ⟨p + r, by show _ = (p + r) - 2 * p * (1 - 0); omega, by omega, by omega⟩
  rw [if_neg h3] at h ⊢
  by_cases h4 : x = "twice"
  · subst h4
    rw [if_pos rfl] at h ⊢
    obtain ⟨r, e, r0, r1⟩ := h
    rcases ba with rfl | rfl
    · exact ⟨a + a, by show _ = 2 * p * 0 + (a + a); omega, by omega, by omega⟩
    · exact ⟨a + a, by show _ = 2 * p * 1 + (a + a); omega, by omega, by omega⟩
  rw [if_neg h4] at h ⊢
  have hz : dcar x α β c = 0 := by
    unfold dcar
    rw [if_neg h3, if_neg h4, if_neg h1, if_neg h2]
  by_cases h5 : x = "one"
  · rw [if_pos h5, hz, if_neg (by omega)]
  · rw [if_neg h5, hz]
theorem nat_bits {a b t : Nat} : ((a &&& b) / 2 ^ t % 2 = (a / 2 ^ t % 2) &&& (b / 2 ^ t % 2)) ∧ ((a ||| b) / 2 ^ t % 2 = (a / 2 ^ t % 2) ||| (b / 2 ^ t % 2)) ∧ ((a ^^^ b) / 2 ^ t % 2 = (a / 2 ^ t % 2) ^^^ (b / 2 ^ t % 2)) := by
  refine ⟨?_, ?_, ?_⟩
  · rw [← Nat.shiftRight_eq_div_pow, ← Nat.shiftRight_eq_div_pow, ← Nat.shiftRight_eq_div_pow, Nat.shiftRight_and_distrib]
    exact Nat.and_mod_two_pow (n := 1)
  · rw [← Nat.shiftRight_eq_div_pow, ← Nat.shiftRight_eq_div_pow, ← Nat.shiftRight_eq_div_pow, Nat.shiftRight_or_distrib]
    exact Nat.or_mod_two_pow (n := 1)
  · rw [← Nat.shiftRight_eq_div_pow, ← Nat.shiftRight_eq_div_pow, ← Nat.shiftRight_eq_div_pow, Nat.shiftRight_xor_distrib]
    exact Nat.xor_mod_two_pow (n := 1)
theorem cast_bit (a t : Nat) : bitA t (a : Int) = ((a / 2 ^ t % 2 : Nat) : Int) := by
  unfold bitA
  rw [pw_cast]
  omega
theorem bit_land {A B : Int} (t : Nat) (ha : 0 ≤ A) (hb : 0 ≤ B) : bitA t (Builtin.bitAnd A B) = Builtin.bitAnd (bitA t A) (bitA t B) := by
  obtain ⟨a, rfl⟩ := Int.eq_ofNat_of_zero_le ha
  obtain ⟨b, rfl⟩ := Int.eq_ofNat_of_zero_le hb
  rw [cast_bit, cast_bit, bitAnd_pp (Int.natCast_nonneg _) (Int.natCast_nonneg _), bitAnd_pp (Int.natCast_nonneg _) (Int.natCast_nonneg _)]
  simp only [Int.toNat_natCast]
  rw [cast_bit, nat_bits.1]
theorem bit_lor {A B : Int} (t : Nat) (ha : 0 ≤ A) (hb : 0 ≤ B) : bitA t (Builtin.bitOr A B) = Builtin.bitOr (bitA t A) (bitA t B) := by
  obtain ⟨a, rfl⟩ := Int.eq_ofNat_of_zero_le ha
  obtain ⟨b, rfl⟩ := Int.eq_ofNat_of_zero_le hb
  rw [cast_bit, cast_bit, bitOr_nn (Int.natCast_nonneg _) (Int.natCast_nonneg _), bitOr_nn (Int.natCast_nonneg _) (Int.natCast_nonneg _)]
  simp only [Int.toNat_natCast]
  rw [cast_bit, nat_bits.2.1]
theorem bit_lxor {A B : Int} (t : Nat) (ha : 0 ≤ A) (hb : 0 ≤ B) : bitA t (Builtin.bitXor A B) = Builtin.bitXor (bitA t A) (bitA t B) := by
  obtain ⟨a, rfl⟩ := Int.eq_ofNat_of_zero_le ha
  obtain ⟨b, rfl⟩ := Int.eq_ofNat_of_zero_le hb
  rw [cast_bit, cast_bit, Bits.bitXor_pp (Int.natCast_nonneg _) (Int.natCast_nonneg _), Bits.bitXor_pp (Int.natCast_nonneg _) (Int.natCast_nonneg _)]
  simp only [Int.toNat_natCast]
  rw [cast_bit, nat_bits.2.2]
theorem dbit_tells {x : Str} {A B c : Int} {t n : Nat} (hx : x ∈ fwL.map (·.1)) (ht : t < n) (ha : 0 ≤ A) (hb : 0 ≤ B) (hc : Bit c) (h : CI x A B (2 ^ t) c) : dbit x (bitA t A) (bitA t B) c = bitA t (dvalue x A B (2 ^ n)) := by
  have hp := pw_pos t
  have eA := Int.mul_ediv_add_emod A (2 ^ t)
  have eB := Int.mul_ediv_add_emod B (2 ^ t)
  have qa := Int.mul_ediv_add_emod (A / 2 ^ t) 2
  have qb := Int.mul_ediv_add_emod (B / 2 ^ t) 2
  have a0 := Int.emod_nonneg A (show (2 : Int) ^ t ≠ 0 by omega)
  have a1 := Int.emod_lt_of_pos A hp
  have b0 := Int.emod_nonneg B (show (2 : Int) ^ t ≠ 0 by omega)
  have b1 := Int.emod_lt_of_pos B hp
  have ba := bitA_bit t A
  have bb := bitA_bit t B
  obtain ⟨N', hN⟩ : ∃ N' : Int, (2 : Int) ^ n = 2 ^ t * (2 * N') := by
    refine ⟨2 ^ (n - t - 1), ?_⟩
    rw [show n = t + 1 + (n - t - 1) by omega, Int.pow_add, Int.pow_succ, Int.mul_assoc]
    congr 3
    omega
  have land := bit_land t ha hb
  have lor := bit_lor t ha hb
  have lxor := bit_lxor t ha hb
  have tt : bitA t (A + A) = (A + A) / 2 ^ t % 2 := rfl
  rw [hN]
  unfold CI at h
  have p1 : (2 : Int) ^ t = 1 ∨ 2 ≤ (2 : Int) ^ t := by omega
  unfold bitA at ba bb ⊢
  unfold bitA at land lor lxor
  clear tt hN
  generalize (2 : Int) ^ t = p at *
  generalize hα : A / p % 2 = α at *
  generalize hβ : B / p % 2 = β at *
  generalize A % p = a at *
  generalize B % p = b at *
  generalize A / p / 2 = A' at *
  generalize B / p / 2 = B' at *
  have dA : A = p * (2 * A' + α) + a := by rw [qa]; omega
  have dB : B = p * (2 * B' + β) + b := by rw [qb]; omega
  have mA := Int.mul_add p (2 * A') α
  have mB := Int.mul_add p (2 * B') β
  simp only [fwL, List.map_cons, List.map_nil, List.mem_cons, List.not_mem_nil, or_false] at hx
  rcases hx with rfl | rfl | rfl | rfl | rfl | rfl | rfl | rfl | rfl | rfl | rfl
  · show (0 : Int) = 0 / p % 2
    rw [Int.zero_ediv]
    rfl
  · show c = 1 / p % 2
    have hc1 : c = if p = 1 then 1 else 0 := h
    rcases p1 with p1 | p1
    · rw [hc1, if_pos p1, p1]
      decide
    · rw [hc1, if_neg (by omega), Int.ediv_eq_zero_of_lt (by omega) (by omega)]
      rfl
  · show (1 : Int) = (p * (2 * N') - 1) / p % 2
    rw [bit_at (u := N' - 1) (k := 1) (r := p - 1) hp (by rw [Int.mul_add, Int.mul_sub, Int.mul_sub]; omega) (by omega) (by omega)]
    decide
  · show 1 - α = (p * (2 * N') - 1 - A) / p % 2
    have e : p * (2 * (N' - 1 - A') + (1 - α)) = p * (2 * N') - p * (2 * A') - p * α - p := by
      rw [Int.mul_add, Int.mul_sub 2, Int.mul_sub 2, Int.mul_sub p, Int.mul_sub p, Int.mul_sub p]
      omega
    rw [bit_at (u := N' - 1 - A') (k := 1 - α) (r := p - 1 - a) hp (by rw [e]; omega) (by omega) (by omega)]
    rcases ba with rfl | rfl <;> decide
  · show Builtin.bitXor (1 - α) c = (-A) / p % 2
    obtain ⟨r, er, r0, r1⟩ : ∃ r, -a = r - p * (1 - c) ∧ 0 ≤ r ∧ r < p := h
    have e : p * (2 * (-A') + (-α - 1 + c)) = -(p * (2 * A')) - p * α - p * (1 - c) := by
      rw [Int.mul_add, Int.mul_neg, Int.mul_neg, Int.mul_sub, Int.mul_add, Int.mul_sub, Int.mul_neg]
      omega
    rw [bit_at (u := -A') (k := -α - 1 + c) (r := r) hp (by rw [e]; omega) r0 r1]
    rcases ba with rfl | rfl <;> rcases hc with rfl | rfl <;> decide
  · show c = (A + A) / p % 2
    obtain ⟨r, er, r0, r1⟩ : ∃ r, a + a = p * c + r ∧ 0 ≤ r ∧ r < p := h
    have e : p * (2 * (2 * A' + α) + c) = 2 * (p * (2 * A')) + 2 * (p * α) + p * c := by
      rw [Int.mul_add, Int.mul_left_comm, Int.mul_add p]
      omega
    rw [bit_at (u := 2 * A' + α) (k := c) (r := r) hp (by rw [e]; omega) r0 r1, bit_val hc]
  · show Builtin.bitAnd α β = Builtin.bitAnd A B / p % 2
    rw [land]
  · show Builtin.bitOr α β = Builtin.bitOr A B / p % 2
    rw [lor]
  · show Builtin.bitXor α β = Builtin.bitXor A B / p % 2
    rw [lxor]
  · show Builtin.bitXor (Builtin.bitXor α β) c = (A + B) / p % 2
    obtain ⟨r, er, r0, r1⟩ : ∃ r, a + b = p * c + r ∧ 0 ≤ r ∧ r < p := h
    have e : p * (2 * (A' + B') + (α + β + c)) = p * (2 * A') + p * (2 * B') + p * α + p * β + p * c := by
      rw [Int.mul_add 2, Int.mul_add, Int.mul_add p, Int.mul_add p, Int.mul_add p]
      omega
    rw [bit_at (u := A' + B') (k := α + β + c) (r := r) hp (by rw [e]; omega) r0 r1]
    rcases ba with rfl | rfl <;> rcases bb with rfl | rfl <;> rcases hc with rfl | rfl <;> decide
  · show Builtin.bitXor (Builtin.bitXor α β) c = (A - B) / p % 2
    obtain ⟨r, er, r0, r1⟩ : ∃ r, a - b = r - p * c ∧ 0 ≤ r ∧ r < p := h
    have e : p * (2 * (A' - B') + (α - β - c)) = p * (2 * A') - p * (2 * B') + p * α - p * β - p * c := by
      rw [Int.mul_sub 2, Int.mul_add, Int.mul_sub p, Int.mul_sub p, Int.mul_sub p]
      omega
    rw [bit_at (u := A' - B') (k := α - β - c) (r := r) hp (by rw [e]; omega) r0 r1]
    rcases ba with rfl | rfl <;> rcases bb with rfl | rfl <;> rcases hc with rfl | rfl <;> decide
/-! ### how many deeds carry -/
def carN : List Deed → Nat
  | [] => 0
  | d :: ds => carN ds + if d.1 ∈ twC then 1 else 0
/-! ### rows' bits and carries -/
theorem bit_mod {V : Int} {t n : Nat} (h : t < n) : bitA t (V % 2 ^ n) = bitA t V := by
  obtain ⟨N', hN⟩ : ∃ N' : Int, (2 : Int) ^ n = 2 ^ t * (2 * N') := by
    refine ⟨2 ^ (n - t - 1), ?_⟩
    rw [show n = t + 1 + (n - t - 1) by omega, Int.pow_add, Int.pow_succ, Int.mul_assoc]
    congr 3
    omega
  have hp := pw_pos t
  have e := Int.mul_ediv_add_emod V (2 ^ n)
  have e1 := Int.mul_ediv_add_emod (V % 2 ^ n) (2 ^ t)
  have r0 := Int.emod_nonneg (V % 2 ^ n) (show (2 : Int) ^ t ≠ 0 by omega)
  have r1 := Int.emod_lt_of_pos (V % 2 ^ n) hp
  unfold bitA
  have z : V / 2 ^ t % 2 = (V % 2 ^ n / 2 ^ t) % 2 := by
    refine bit_at (u := N' * (V / 2 ^ n)) (k := V % 2 ^ n / 2 ^ t) (r := V % 2 ^ n % 2 ^ t) hp ?_ r0 r1
    have e2 : (2 : Int) ^ t * (2 * (N' * (V / 2 ^ n))) = 2 ^ n * (V / 2 ^ n) := by rw [hN, Int.mul_assoc, Int.mul_assoc]
    rw [Int.mul_add, e2]
    omega
  exact z.symm
theorem vals_pre {N : Int} : ∀ (ds : List Deed) (t : List Int), (vals N ds t).take t.length = t
  | [], t => List.take_length
  | d :: ds, t => by
    have h := vals_pre ds (t ++ [dval N d t]) (N := N)
    show (vals N ds (t ++ [dval N d t])).take t.length = t
    have h2 : ((vals N ds (t ++ [dval N d t])).take (t ++ [dval N d t]).length).take t.length = t := by
      rw [h]
      exact List.take_left
    rw [List.take_take, List.length_append, Nat.min_eq_left (by omega)] at h2
    exact h2
theorem vals_at {N : Int} {ds : List Deed} {xs : List Int} (i : Nat) (hi : i ≤ ds.length) : vals N (ds.take i) xs = (vals N ds xs).take (xs.length + i) := by
  have e : vals N ds xs = vals N (ds.drop i) (vals N (ds.take i) xs) := by rw [← vals_append, List.take_append_drop]
  have l : (vals N (ds.take i) xs).length = xs.length + i := by rw [vals_len, List.length_take, Nat.min_eq_left hi]
  rw [e, ← l, vals_pre]
theorem ix_lt {d : Deed} {n : Nat} (h : DeedOk n d) (hn : 1 ≤ n) (k : Nat) : (d.2.getD k 0).toNat < n := by
  rw [List.getD_eq_getElem?_getD]
  cases e : d.2[k]? with
  | none => exact hn
  | some i =>
    obtain ⟨h0, h1⟩ := h.ahead i (List.mem_of_getElem? e)
    show i.toNat < n
    omega
theorem arg_map {d : Deed} {told : List Int} (f : Int → Int) (h : DeedOk told.length d) (hn : 1 ≤ told.length) (k : Nat) : argAt d (told.map f) k = f (argAt d told k) := by
  have hi := ix_lt h hn k
  unfold argAt
  generalize (d.2.getD k 0).toNat = j at hi
  rw [List.getD_eq_getElem?_getD, List.getD_eq_getElem?_getD, List.getElem?_map, List.getElem?_eq_getElem hi]
  rfl
theorem arg_take {d : Deed} {v : List Int} {n : Nat} (h : DeedOk n d) (hn : 1 ≤ n) (hv : n ≤ v.length) (k : Nat) : argAt d (v.take n) k = argAt d v k := by
  have hi := ix_lt h hn k
  unfold argAt
  generalize (d.2.getD k 0).toNat = j at hi
  rw [List.getD_eq_getElem?_getD, List.getD_eq_getElem?_getD, List.getElem?_take, if_pos hi]
/-- the carries into bit t -/
structure CIs (v : List Int) (t : Nat) (ds : List Deed) (cs : List Int) : Prop where
  len : cs.length = ds.length
  each : ∀ (k : Nat) d c, ds[k]? = some d → cs[k]? = some c → CI d.1 (argAt d v 0) (argAt d v 1) (2 ^ t) c ∧ Bit c
theorem cis_first (v : List Int) (ds : List Deed) : CIs v 0 ds (ds.map fcD) where
  len := List.length_map ..
  each := fun k d c hd hc => by
    rw [List.getElem?_map, hd] at hc
    obtain rfl := Option.some.inj hc
    refine ⟨ci_first d _ _, ?_⟩
    unfold fcD
    split
    · exact bit1
    · exact bit0
theorem cis_bits {m n t : Nat} {ds : List Deed} {xs cs : List Int} (ok : DsOk m ds) (hm : xs.length = m) (m1 : 1 ≤ m) (hx : ∀ x ∈ xs, 0 ≤ x ∧ x < 2 ^ n) (ht : t < n) (h : CIs (vals (2 ^ n) ds xs) t ds cs) : bts ds cs (xs.map (bitA t)) = (vals (2 ^ n) ds xs).map (bitA t) := by
  have vr := vals_range (pw_pos n) ds xs hx
  have vl := vals_len (size := 2 ^ n) ds xs
  have key : ∀ i, i ≤ ds.length → bts (ds.take i) (cs.take i) (xs.map (bitA t)) = ((vals (2 ^ n) ds xs).take (xs.length + i)).map (bitA t) := by
    intro i
    induction i with
    | zero =>
      intro _
      rw [Nat.add_zero, vals_pre]
      cases ds <;> rfl
    | succ i ih =>
      intro hi
      have hd : ds[i]? = some ds[i] := List.getElem?_eq_getElem (by omega)
      have hc : cs[i]? = some (cs[i]'(by rw [h.len]; omega)) := List.getElem?_eq_getElem _
      obtain ⟨h1, h2⟩ := h.each i _ _ hd hc
      generalize ds[i] = d at hd h1
      generalize cs[i]'(by rw [h.len]; omega) = c at hc h1 h2
      have okd : DeedOk ((xs.length + i : Nat) : Int) d := by
        have := ok.each i d hd
        rw [hm]
        have e : ((m + i : Nat) : Int) = (m : Int) + (i : Int) := by omega
        rw [e]
        exact this
      have pl : ((vals (2 ^ n) ds xs).take (xs.length + i)).length = xs.length + i := by
        rw [List.length_take, vl]
        omega
      rw [bts_next hd hc, ih (by omega), ← vals_at (i + 1) hi, vals_next hd, vals_at i (by omega), List.map_append]
      congr 1
      show [dbitAt d c _] = [bitA t (dval (2 ^ n) d _)]
      unfold dbitAt dval
      rw [arg_map _ (by rw [pl]; exact okd) (by omega), arg_map _ (by rw [pl]; exact okd) (by omega), arg_take okd (by omega) (by omega), arg_take okd (by omega) (by omega), bit_mod ht]
      rw [dbit_tells (List.mem_map.mpr ⟨_, okd.word, rfl⟩) ht (arg_nn (fun x hx => (vr x hx).1) d 0) (arg_nn (fun x hx => (vr x hx).1) d 1) h2 h1]
  have e := key ds.length (Nat.le_refl _)
  rw [List.take_length, ← h.len, List.take_length, h.len, ← vl, List.take_length] at e
  exact e
theorem cis_next {m n t : Nat} {ds : List Deed} {xs cs : List Int} (ok : DsOk m ds) (hm : xs.length = m) (m1 : 1 ≤ m) (h : CIs (vals (2 ^ n) ds xs) t ds cs) : CIs (vals (2 ^ n) ds xs) (t + 1) ds (nxt ds cs ((vals (2 ^ n) ds xs).map (bitA t))) where
  len := nxt_len h.len.symm
  each := fun k d c hd hc => by
    unfold nxt at hc
    rw [List.getElem?_zipWith, hd] at hc
    cases e : cs[k]? with
    | none => rw [e] at hc; simp at hc
    | some c0 =>
      rw [e] at hc
      obtain rfl : dcarAt d c0 ((vals (2 ^ n) ds xs).map (bitA t)) = c := by simpa using hc
      obtain ⟨h1, h2⟩ := h.each k d c0 hd e
      have kl := (List.getElem?_eq_some_iff.mp hd).1
      have okd : DeedOk (vals (2 ^ n) ds xs).length d := by
        rw [vals_len]
        refine ⟨(ok.each k d hd).word, fun i hi => ?_⟩
        have := (ok.each k d hd).ahead i hi
        omega
      have l1 : 1 ≤ (vals (2 ^ n) ds xs).length := by
        rw [vals_len]
        omega
      unfold dcarAt
      rw [arg_map _ okd l1, arg_map _ okd l1]
      refine ⟨?_, dcar_bit (bitA_bit _ _) (bitA_bit _ _) h2⟩
      rw [Int.pow_succ, Int.mul_comm]
      exact ci_next (pw_pos t) h2 h1
/-- the carry come to by the words' bits -/
def crry (ds : List Deed) (xs : List Int) : Nat → List Int
  | 0 => ds.map fcD
  | t + 1 => nxt ds (crry ds xs t) (bts ds (crry ds xs t) (xs.map (bitA t)))
theorem crry_ok {m n : Nat} {ds : List Deed} {xs : List Int} (ok : DsOk m ds) (hm : xs.length = m) (m1 : 1 ≤ m) (hx : ∀ x ∈ xs, 0 ≤ x ∧ x < 2 ^ n) : ∀ t, t ≤ n → CIs (vals (2 ^ n) ds xs) t ds (crry ds xs t)
  | 0, _ => cis_first _ ds
  | t + 1, h => by
    have ih := crry_ok ok hm m1 hx t (by omega)
    show CIs _ (t + 1) ds (nxt ds (crry ds xs t) (bts ds (crry ds xs t) (xs.map (bitA t))))
    rw [cis_bits ok hm m1 hx (by omega) ih]
    exact cis_next ok hm m1 ih
theorem crry_bits {m n t : Nat} {ds : List Deed} {xs : List Int} (ok : DsOk m ds) (hm : xs.length = m) (m1 : 1 ≤ m) (hx : ∀ x ∈ xs, 0 ≤ x ∧ x < 2 ^ n) (ht : t < n) : bts ds (crry ds xs t) (xs.map (bitA t)) = (vals (2 ^ n) ds xs).map (bitA t) :=
  cis_bits ok hm m1 hx ht (crry_ok ok hm m1 hx t (by omega))
/-! ### the carries that come -/
inductive Rch (m : Nat) (ds : List Deed) : List Int → Prop
  | first : Rch m ds (ds.map fcD)
  | next {c bs : List Int} : Rch m ds c → bs.length = m → (∀ x ∈ bs, Bit x) → Rch m ds (nxt ds c (bts ds c bs))
theorem crry_rch (ds : List Deed) (xs : List Int) : ∀ t, Rch xs.length ds (crry ds xs t)
  | 0 => .first
  | t + 1 => .next (crry_rch ds xs t) (List.length_map ..) fun x hx => by
    obtain ⟨y, _, rfl⟩ := List.mem_map.mp hx
    exact bitA_bit t y
/-- bits, none where nothing carries -/
def Shp : List Deed → List Int → Prop
  | [], [] => True
  | d :: ds, c :: cs => Bit c ∧ (d.1 ∉ twC → c = 0) ∧ Shp ds cs
  | _, _ => False
theorem Shp.len : ∀ {ds : List Deed} {cs : List Int}, Shp ds cs → cs.length = ds.length
  | [], [], _ => rfl
  | [], _ :: _, h => h.elim
  | _ :: _, [], h => h.elim
  | _ :: _, _ :: _, h => congrArg (· + 1) (Shp.len h.2.2)
theorem Shp.bits : ∀ {ds : List Deed} {cs : List Int}, Shp ds cs → ∀ c ∈ cs, Bit c
  | [], [], _ => (fun _ z => nomatch z)
  | [], _ :: _, h => h.elim
  | _ :: _, [], h => h.elim
  | _ :: _, _ :: _, h => fun c hc => by
    rcases List.mem_cons.mp hc with rfl | hc
    · exact h.1
    · exact Shp.bits h.2.2 c hc
theorem calm_first {d : Deed} (h : d.1 ∉ twC) : fcD d = 0 := by
  unfold fcD
  rw [if_neg]
  intro z
  simp only [List.mem_cons, List.not_mem_nil, or_false] at z
  simp only [twC, List.mem_cons, List.not_mem_nil, or_false, not_or] at h
  rcases z with z | z
  · exact h.2.2.2.1 z
  · exact h.2.2.2.2 z
theorem calm_car {x : Str} (h : x ∉ twC) (a b c : Int) : dcar x a b c = 0 := by
  simp only [twC, List.mem_cons, List.not_mem_nil, or_false, not_or] at h
  obtain ⟨h1, h2, h3, h4, h5⟩ := h
  unfold dcar
  rw [if_neg h4, if_neg h3, if_neg h1, if_neg h2]
theorem shp_first : ∀ ds : List Deed, Shp ds (ds.map fcD)
  | [] => trivial
  | d :: ds => ⟨(by unfold fcD; split; exact bit1; exact bit0), calm_first, shp_first ds⟩
theorem shp_nxt {told : List Int} (hb : ∀ x ∈ told, Bit x) : ∀ {ds : List Deed} {cs : List Int}, Shp ds cs → Shp ds (nxt ds cs told)
  | [], [], _ => trivial
  | [], _ :: _, h => h.elim
  | _ :: _, [], h => h.elim
  | d :: ds, c :: cs, h => ⟨dcar_bit (argAt_bit hb d 0) (argAt_bit hb d 1) h.1, fun z => calm_car z _ _ _, shp_nxt hb h.2.2⟩
theorem rch_shp {m : Nat} {ds : List Deed} : ∀ {c : List Int}, Rch m ds c → Shp ds c := by
  intro c h
  induction h with
  | first => exact shp_first ds
  | next h hl hb ih => exact shp_nxt (bts_bits hb ih.bits) ih
def univ : List Deed → List (List Int)
  | [] => [[]]
  | d :: ds => if d.1 ∈ twC then (univ ds).map (0 :: ·) ++ (univ ds).map (1 :: ·) else (univ ds).map (0 :: ·)
theorem univ_len : ∀ ds : List Deed, (univ ds).length = 2 ^ carN ds
  | [] => rfl
  | d :: ds => by
    have ih := univ_len ds
    unfold univ carN
    by_cases h : d.1 ∈ twC
    · rw [if_pos h, if_pos h, List.length_append, List.length_map, List.length_map, ih, Nat.pow_succ]
      omega
    · rw [if_neg h, if_neg h, List.length_map, ih]
      rfl
theorem shp_univ : ∀ {ds : List Deed} {cs : List Int}, Shp ds cs → cs ∈ univ ds
  | [], [], _ => List.mem_cons_self
  | [], _ :: _, h => h.elim
  | _ :: _, [], h => h.elim
  | d :: ds, c :: cs, h => by
    have ih := shp_univ h.2.2
    unfold univ
    by_cases hd : d.1 ∈ twC
    · rw [if_pos hd]
      rcases h.1 with rfl | rfl
      · exact List.mem_append_left _ (List.mem_map.mpr ⟨cs, ih, rfl⟩)
      · exact List.mem_append_right _ (List.mem_map.mpr ⟨cs, ih, rfl⟩)
    · rw [if_neg hd, h.2.1 hd]
      exact List.mem_map.mpr ⟨cs, ih, rfl⟩
theorem pigeon {α : Type} [DecidableEq α] : ∀ (l D : List α), l.Nodup → (∀ x ∈ l, x ∈ D) → l.length ≤ D.length
  | [], _, _, _ => Nat.zero_le _
  | x :: l, D, nd, h => by
    rw [List.nodup_cons] at nd
    have hx := h x List.mem_cons_self
    have ih := pigeon l (D.erase x) nd.2 fun y hy => (List.mem_erase_of_ne (fun e : y = x => nd.1 (by rw [← e]; exact hy))).mpr (h y (List.mem_cons_of_mem _ hy))
    rw [List.length_erase_of_mem hx] at ih
    have := List.length_pos_of_mem hx
    rw [List.length_cons]
    omega
/-! ### all bits -/
theorem walk_gen {J : It} {n : Nat} {G : Hp → Prop} {Y : Nat → Hp → V → Hp → Prop} (w : Walk J n G Y) {g : TG} {σ0 : L2.St} {B : (Hp → Prop) → L2.St → Hp → Prop} {H0 : Hp} {Qd : Hp → Prop} (Pv : Nat → Hp → Prop) (h0 : Pv 0 H0)
    (hG : ∀ i H, i ≤ n → Pv i H → G H) (hs : ∀ i x H H', i < n → Pv i H → Y i H x H' → g x σ0 H' fun σ2 H2 => B (Pv (i + 1)) σ2 H2) (hd : ∀ H, Pv n H → Qd H) :
    ∃ W : Nat → Nat → Hp → Prop, (∃ m, W 0 m H0) ∧ ∀ i m H, W i m H → (J.stop i H ∧ Qd H) ∨ (J.go i H ∧ ∃ Nx : Hp → Prop, (∀ H', Nx H' → ∃ m', m' < m ∧ W (i + 1) m' H') ∧ ∀ x H', J.yld i H x H' → g x σ0 H' fun σ2 H2 => B Nx σ2 H2) := by
  refine ⟨fun i m H => m = n - i ∧ i ≤ n ∧ Pv i H, ⟨n, by simp, Nat.zero_le _, h0⟩, ?_⟩
  rintro i m H ⟨rfl, hi, q⟩
  by_cases lt : i < n
  · exact .inr ⟨w.goes i H lt (hG i H hi q), Pv (i + 1), fun H' z => ⟨n - (i + 1), by omega, rfl, lt, z⟩, fun x H' y => hs i x H H' lt q (w.yields i H x H' lt (hG i H hi q) y)⟩
  · obtain rfl : i = n := by omega
    exact .inl ⟨w.stops H (hG i H hi q), hd H q⟩
def ext2 (l : List (List Int)) : List (List Int) := l.flatMap fun b => [b ++ [0], b ++ [1]]
def allB : Nat → List (List Int)
  | 0 => [[]]
  | m + 1 => ext2 (allB m)
theorem ext2_len (l : List (List Int)) : (ext2 l).length = 2 * l.length := by
  unfold ext2
  induction l with
  | nil => rfl
  | cons b l ih => rw [List.flatMap_cons, List.length_append, ih, List.length_cons]; simp; omega
theorem allB_len : ∀ m, (allB m).length = 2 ^ m
  | 0 => rfl
  | m + 1 => by
    show (ext2 (allB m)).length = _
    rw [ext2_len, allB_len m, Nat.pow_succ]
    omega
theorem allB_ok : ∀ m, ∀ bs ∈ allB m, bs.length = m ∧ ∀ x ∈ bs, Bit x
  | 0, bs, h => by
    rw [List.mem_singleton.mp h]
    exact ⟨rfl, (fun _ z => nomatch z)⟩
  | m + 1, bs, h => by
    obtain ⟨b, hb, h2⟩ := List.mem_flatMap.mp h
    obtain ⟨h3, h4⟩ := allB_ok m b hb
    simp only [List.mem_cons, List.not_mem_nil, or_false] at h2
    rcases h2 with rfl | rfl
    · refine ⟨by rw [List.length_append, h3]; rfl, fun x hx => ?_⟩
      rcases List.mem_append.mp hx with hx | hx
      · exact h4 x hx
      · rw [List.mem_singleton.mp hx]
        exact bit0
    · refine ⟨by rw [List.length_append, h3]; rfl, fun x hx => ?_⟩
      rcases List.mem_append.mp hx with hx | hx
      · exact h4 x hx
      · rw [List.mem_singleton.mp hx]
        exact bit1
theorem allB_all : ∀ m, ∀ bs : List Int, bs.length = m → (∀ x ∈ bs, Bit x) → bs ∈ allB m
  | 0, bs, h, _ => by
    rw [List.eq_nil_of_length_eq_zero h]
    exact List.mem_cons_self
  | m + 1, bs, h, hb => by
    have hne : bs ≠ [] := fun e => by rw [e] at h; simp at h
    have e := List.dropLast_concat_getLast hne
    have h1 : bs.dropLast ∈ allB m := allB_all m _ (by rw [List.length_dropLast, h]; rfl) fun x hx => hb x ((List.dropLast_sublist bs).subset hx)
    refine List.mem_flatMap.mpr ⟨_, h1, ?_⟩
    rcases hb _ (List.getLast_mem hne) with z | z
    · rw [z] at e
      exact List.mem_cons.mpr (.inl e.symm)
    · rw [z] at e
      exact List.mem_cons.mpr (.inr (List.mem_singleton.mpr e.symm))
/-- tuples of ints -/
abbrev TAt (H : Hp) : List Addr → List (List Int) → Prop := Paired fun f bs => H f = some (.tup (bs.map V.int))
theorem tat_stay {H H' : Hp} (t : TupsStay H H') {fs : List Addr} {l : List (List Int)} (h : TAt H fs l) : TAt H' fs l := awMap (fun f b e => t f _ e) h
def spAll : Sp := fun vs H Q _ => ∃ m : Nat, vs = [.int (m : Int)] ∧ m ≤ 3 ∧ ∀ H' p fs, Same H H' → H p = none → H' p = some (.lst (fs.map V.ref)) → TAt H' fs (allB m) → Q (.ref p) H'
theorem ok_all {f : Addr} {fd : FuncData} {k : Nat} (F : Fun K "all_bits" "all_bits" s_all_bits f fd) (mr : mg "range" = none) : FnOk P w K mg base CX0 (k + 1) f fd ["many"] spAll := by
  refine F.ok sc_all_bits (fun vs H Q E h => ?_) (fun cdv A outer s H vs Q E hr h => ?_)
  · obtain ⟨m, rfl, _⟩ := h
    rfl
  · obtain ⟨m, rfl, m3, q⟩ := h
    refine ⟨_, pss_cons (ps_set (i := 1) sc_all_bits.nd rfl (.inl rfl) (pe_lst (pa_cons (pe_tup pa_nil) pa_nil)))
      (pss_cons (ps_for PassesOwn.never rfl (pi_range1 (by rfl) mr (pa_cons (pv 0) pa_nil)) (pg_name (i := 2) sc_all_bits.nd rfl (.inl rfl))
        (pss_one (ps_setLc2 (i := 1) (own := [("bits", 3), ("bit", 4)]) (vs1 := [4]) (g := gName 3) (g1 := gName 4) (wi1 := iTup K (tTup (tCons (tC (.int 0)) (tCons (tC (.int 1)) tNil)))) (by rfl) sc_all_bits.nd rfl rfl (sw_true rfl rfl rfl (by decide +kernel)) (pi_list (pv 1)) (blkOk_by (own := [("bits", 3), ("bit", 4)]) (N := N_all_bits) (sc := defScope s_all_bits) (by decide +kernel)) (by decide)
          (fun _ _ _ _ _ => pg_name (i := 3) sc_all_bits.nd rfl (Or.inl rfl)) (fun _ _ _ _ _ => pts_nil) (fun _ _ _ _ _ => pi_tup (pe_tup (pa_cons pe_int (pa_cons pe_int pa_nil))))
          (fun _ _ _ _ _ => pg_name (i := 4) sc_all_bits.nd rfl (Or.inl rfl)) (fun _ _ _ _ _ => pts_nil) (fun _ _ _ _ _ => pe_op op_catZ (pv 3) (pe_tup (pa_cons (pv 4) pa_nil))))))
      (pss_one (ps_ret (pv 1)))), ?_⟩
    refine ⟨by show 0 ≤ sizeLine; decide, fun T hT => ⟨by show 1 ≤ sizeLine; decide, fun L hL => ?_⟩⟩
    have s1 := same_new (o := .tup []) hT
    have s2 := same_new (o := .lst [.ref T]) hL
    refine ⟨.int m, rfl, m, rfl, by omega, by omega, for_range (lo := 0) (n := m) (fun i σ H3 => ∃ y2 F1 fs, σ = [some (.int (m : Int)), some (.ref F1), y2, none, none] ∧ H F1 = none ∧ H3 F1 = some (.lst (fs.map V.ref)) ∧ TAt H3 fs (allB i) ∧ Same H H3) ⟨none, L, [T], rfl, s1.free hL, upd_same, .cons (s2 _ _ upd_same) .nil, s1.trans s2⟩ (fun i σ H3 hi hp => ?_) (fun σ H3 hp => ?_)⟩
    · obtain ⟨y2, F1, fs, rfl, nF, eF, hf, sm⟩ := hp
      have fl : fs.length ≤ 8 := by
        rw [awLen hf, allB_len]
        exact Nat.le_trans (Nat.pow_le_pow_right (by decide) (show i ≤ 3 by omega)) (by decide)
      refine ⟨.ref F1, rfl, F1, rfl, ⟨_, .inl (.inl eF)⟩, fun M hM => ?_⟩
      refine walk_gen (walk_list (K := K) (a := F1) (xs := fs.map V.ref)) (fun j H4 => ∃ gs, H4 M = some (.lst (gs.map V.ref)) ∧ TAt H4 gs (ext2 ((allB i).take j)) ∧ Same H3 H4) ⟨[], upd_same, .nil, same_new hM⟩ (fun j H4 _ hp => ?_) (fun j x H4 H5 hj hp hy => ?_) (fun H4 hp => ?_)
      · obtain ⟨_, _, _, s4⟩ := hp
        exact .inl (.inl (s4 _ _ eF))
      · obtain ⟨gs, eM, hg, s4⟩ := hp
        obtain ⟨rfl, hx⟩ := hy
        have hj2 : j < fs.length := by rwa [List.length_map] at hj
        have hx' : x = .ref fs[j] := by
          rw [List.getElem?_map, List.getElem?_eq_getElem hj2] at hx
          exact (Option.some.inj hx).symm
        subst hx'
        obtain ⟨b, hb1, hb2⟩ := awGet hf (List.getElem?_eq_getElem hj2)
        have bl : b.length = i := (allB_ok i b (List.mem_of_getElem? hb1)).1
        refine ⟨rfl, by show 2 ≤ sizeLine; decide, fun U hU => ?_⟩
        have sU := same_new (o := .tup [.int 0, .int 1]) hU
        refine ⟨U, rfl, ⟨_, SqT.of upd_same⟩, ?_⟩
        refine walk_gen (walk_tup (K := K) (a := U) (xs := [.int 0, .int 1])) (fun t H6 => ∃ gs, H6 M = some (.lst (gs.map V.ref)) ∧ TAt H6 gs (ext2 ((allB i).take j) ++ [b ++ [0], b ++ [1]].take t) ∧ TupsStay (upd H5 U (.tup [.int 0, .int 1])) H6 ∧ Same H3 H6) ⟨gs, sU _ _ eM, (by rw [List.take_zero, List.append_nil]; exact tat_stay (Same.tups sU) hg), (fun _ _ e => e), s4.trans sU⟩ (fun t H6 _ hp => ?_) (fun t x H6 H7 ht hp hy => ?_) (fun H6 hp => ?_)
        · obtain ⟨_, _, _, t6, _⟩ := hp
          exact SqT.of (t6 _ _ upd_same)
        · obtain ⟨gs, eM6, hg6, t6, s6⟩ := hp
          obtain ⟨rfl, hx⟩ := hy
          obtain ⟨z, rfl, hz⟩ : ∃ z : Int, x = .int z ∧ [b ++ [0], b ++ [1]].take (t + 1) = [b ++ [0], b ++ [1]].take t ++ [b ++ [z]] := by
            have ht2 : t = 0 ∨ t = 1 := by
              have : t < 2 := ht
              omega
            rcases ht2 with rfl | rfl
            · exact ⟨0, (Option.some.inj hx).symm, rfl⟩
            · exact ⟨1, (Option.some.inj hx).symm, rfl⟩
          have eb := s6 _ _ (hb2)
          refine ⟨rfl, .ref fs[j], rfl, .int z, rfl, by show 1 ≤ sizeLine; decide, fun U2 hU2 => ?_⟩
          have sU2 := same_new (o := .tup [.int z]) hU2
          refine ⟨fs[j], U2, _, _, rfl, rfl, sU2 _ _ eb, upd_same, by rw [List.length_map]; exact Nat.le_of_lt (small1000 (by show b.length + 1 ≤ 1000; omega)), fun p H8 s8 ep => ?_⟩
          have s78 := sU2.trans s8
          have eM8 := s78 _ _ eM6
          have gl := awLen hg6
          have gl2 : gs.length ≤ 18 := by
            rw [gl, List.length_append, ext2_len, List.length_take]
            have e1 : (allB i).length = fs.length := (awLen hf).symm
            have e2 : ([b ++ [0], b ++ [1]].take t).length ≤ 2 := by
              rw [List.length_take]
              exact Nat.min_le_right _ _
            omega
          have tp := tups_put (o := .lst (gs.map V.ref ++ [V.ref p])) eM8
          refine ⟨_, eM8, by rw [List.length_map]; exact small1000 (by omega), gs ++ [p], ?_, ?_, ?_, ?_⟩
          · rw [upd_same, List.map_append]
            rfl
          · rw [hz, ← List.append_assoc]
            refine tat_stay tp (awSnoc (F := fun f (bs : List Int) => H8 f = some (.tup (bs.map V.int))) ?_ (tat_stay (Same.tups s78) hg6))
            rw [ep, List.map_append]
            rfl
          · exact (t6.trans (Same.tups s78)).trans tp
          · intro c u e
            rw [upd_ne (ne_of_none e hM)]
            exact s78 c u (s6 c u e)
        · obtain ⟨gs, eM6, hg6, t6, s6⟩ := hp
          refine ⟨gs, eM6, ?_, s6⟩
          have e1 : ext2 ((allB i).take (j + 1)) = ext2 ((allB i).take j) ++ [b ++ [0], b ++ [1]] := by
            rw [List.take_add_one, hb1]
            unfold ext2
            rw [List.flatMap_append]
            rfl
          rw [e1]
          exact hg6
      · obtain ⟨gs, eM, hg, s4⟩ := hp
        refine ⟨some (.int (0 + i)), M, gs, rfl, sm.free hM, eM, ?_, sm.trans s4⟩
        rw [List.length_map, awLen hf, List.take_length] at hg
        exact hg
    · obtain ⟨y2, F1, fs, rfl, nF, eF, hf, sm⟩ := hp
      exact ⟨.ref F1, rfl, q _ F1 fs sm nF eF hf⟩
/-! ### carry_behind, steps, kept_steps -/
def spCb : Sp := fun vs H Q _ => ∃ (R C T : Addr) (m o : Int) (ds : List Deed) (cs told : List Int), vs = [.ref R, .ref C, .ref T] ∧ RowAt H R m ds o ∧ DsOk m ds ∧ ds.length ≤ 100 ∧ H C = some (.tup (cs.map V.int)) ∧ cs.length = ds.length ∧ H T = some (.tup (told.map V.int)) ∧ (told.length : Int) = m + ds.length ∧
  ∀ H' p, Same H H' → H p = none → H' p = some (.tup ((nxt ds cs told).map V.int)) → Q (.ref p) H'
theorem ok_cb {f fC : Addr} {fd fdC : FuncData} {k : Nat} (F : Fun K "carry_behind" "carry_behind" s_carry_behind f fd)
    (GC : FnOk P w K mg base CX0 (k + 2) fC fdC ["deed", "held", "told"] spDc) (kC : PySem.W.keepIn K (.ref fC) = true) (bC : Binds K fdC ["deed", "held", "told"] []) (gC : mg "deed_carry" = some (.ref fC)) (mt : mg "tuple" = none) (mz : mg "zip" = none) : FnOk P w K mg base CX0 (k + 3) f fd ["row", "carry", "told"] spCb := by
  refine F.ok sc_carry_behind (fun vs H Q E h => ?_) (fun cdv A outer s H vs Q E hr h => ?_)
  · obtain ⟨R, C, T, m, o, ds, cs, told, rfl, _⟩ := h
    rfl
  · obtain ⟨R, C, T, m, o, ds, cs, told, rfl, hrow, hok, hds, eC, hcl, eT, htl, q⟩ := h
    obtain ⟨D, rs, eR, eD, hd⟩ := id hrow
    refine ⟨_, pss_one (ps_ret (pe_callTy call_tuple_of (by rfl) mt (by decide +kernel) (pa_cons
        (pe_lc (own := [("deed", 3), ("held", 4)]) (g := gTup K 2 (gCons (gName 3) (gCons (gName 4) gNil))) (by rfl) sc_carry_behind.nd (RZ.pi_zipA (by rfl) mz (pa_cons (pe_ix ix_tup (pv 0) pe_int (fun _ _ => rfl)) (pa_cons (pv 1) pa_nil))) (blkOk_by (own := [("deed", 3), ("held", 4)]) (N := N_carry_behind) (sc := defScope s_carry_behind) (by decide +kernel))
          (fun _ _ _ _ _ => pg_tup rfl (pgs_cons (pg_name (i := 3) sc_carry_behind.nd rfl (.inl rfl)) (pgs_cons (pg_name (i := 4) sc_carry_behind.nd rfl (.inl rfl)) pgs_nil))) (fun _ _ _ _ _ => pts_nil)
          (fun _ _ _ _ _ => pe_call GC hr (by rfl) gC kC bC .nil pass0 (pa_cons (pv 3) (pa_cons (pv 4) (pa_cons (pv 2) pa_nil))))) pa_nil))), ?_⟩
    have lrs : (rs.map V.ref).length = ds.length := by rw [List.length_map, awLen hd]
    have lcs : (cs.map V.int).length = ds.length := by rw [List.length_map, hcl]
    refine ⟨.ref R, rfl, R, _, 1, .ref D, rfl, rfl, SqT.of eR, rfl, .ref C, rfl, D, C, _, _, rfl, .inr ⟨SqT.of eD, SqT.of eC, fun L hL => ?_⟩⟩
    refine lc_it (walk_zipT (K := K) (a := D) (b := C) (xs := rs.map V.ref) (ys := cs.map V.int) (lrs.trans lcs.symm)) (fun i H4 => H4 L = some (.lst (((nxt ds cs told).take i).map V.int)) ∧ Same H H4) ⟨upd_same, same_new hL⟩ (fun i H4 _ hp => ⟨SqT.of (hp.2 _ _ eD), SqT.of (hp.2 _ _ eC)⟩) (fun i x H4 H5 hi hp hy => ?_) (fun H4 hp => ?_)
    · obtain ⟨eL, sm⟩ := hp
      obtain ⟨U, x1, x2, rfl, hU, rfl, g1, g2⟩ := hy
      have hi2 : i < rs.length := by rwa [List.length_map] at hi
      have hx' : x1 = .ref rs[i] := by
        have g1' : (rs.map V.ref)[i]? = some x1 := g1
        rw [List.getElem?_map, List.getElem?_eq_getElem hi2] at g1'
        exact (Option.some.inj g1').symm
      subst hx'
      obtain ⟨d, hd1, hd2⟩ := awGet hd (List.getElem?_eq_getElem hi2)
      obtain ⟨c, hc, rfl⟩ : ∃ c, cs[i]? = some c ∧ x2 = .int c := by
        have g2' : (cs.map V.int)[i]? = some x2 := g2
        rw [List.getElem?_map] at g2'
        cases e : cs[i]? with
        | none => rw [e] at g2'; cases g2'
        | some c => rw [e] at g2'; exact ⟨c, rfl, (Option.some.inj g2').symm⟩
      have h2 : i < ds.length := by
        rw [← awLen hd]
        exact hi2
      have okd : DeedOk told.length d := okd_more (hok.each i d hd1) (by omega)
      have sU := same_new (o := .tup [.ref rs[i], .int c]) hU
      refine ⟨U, [.ref rs[i], .int c], rfl, .inl (.inl upd_same), rfl, .ref rs[i], [.int c], rfl, .int c, [], rfl, rfl, rfl, ?_⟩
      refine ⟨.ref rs[i], rfl, .int c, rfl, .ref T, rfl, rs[i], T, d, _, c, rfl, sU _ _ (sm _ _ hd2), sU _ _ (sm _ _ eT), okd, _, sU _ _ eL, ?_, ?_, ?_⟩
      · rw [List.length_map, List.length_take, nxt_len hcl.symm]
        exact small1000 (by omega)
      · rw [upd_same, nxt_next hd1 hc, List.map_append]
        rfl
      · intro b u e
        rw [upd_ne (ne_of_none e hL)]
        exact sU b u (sm b u e)
    · obtain ⟨eL, sm⟩ := hp
      rw [lrs, ← nxt_len (t := told) hcl.symm, List.take_length] at eL
      refine ⟨L, _, rfl, .inl ⟨.inl (.inl eL), fun p hp => ?_⟩⟩
      exact q _ p (sm.trans (same_new hp)) (sm.free hp) upd_same
/-- the steps of a carry: for all bits the bit of out and the next carry -/
def stp (m : Nat) (ds : List Deed) (o : Int) (cs : List Int) : List (Int × List Int) := (allB m).map fun bs => ((bts ds cs bs).getD o.toNat 0, nxt ds cs (bts ds cs bs))
theorem stp_len (m : Nat) (ds : List Deed) (o : Int) (cs : List Int) : (stp m ds o cs).length = 2 ^ m := by
  unfold stp
  rw [List.length_map, allB_len]
abbrev StAt (H : Hp) : List Addr → List (Int × List Int) → Prop := Paired fun q e => ∃ c, H q = some (.tup [.int e.1, .ref c]) ∧ H c = some (.tup (e.2.map V.int))
theorem stat_stay {H H' : Hp} (t : TupsStay H H') {ps : List Addr} {l : List (Int × List Int)} (h : StAt H ps l) : StAt H' ps l := awMap (fun q e z => z.elim fun c y => ⟨c, t _ _ y.1, t _ _ y.2⟩) h
def spSt : Sp := fun vs H Q _ => ∃ (R C : Addr) (m : Nat) (o : Int) (ds : List Deed) (cs : List Int), vs = [.ref R, .ref C] ∧ RowAt H R m ds o ∧ RowOk m ds o ∧ H C = some (.tup (cs.map V.int)) ∧ cs.length = ds.length ∧
  ∀ H' p ps, Same H H' → H p = none → H' p = some (.lst (ps.map V.ref)) → StAt H' ps (stp m ds o cs) → Q (.ref p) H'
theorem ok_st {f fA fB fC : Addr} {fd fdA fdB fdC : FuncData} {k : Nat} (F : Fun K "steps" "steps" s_steps f fd)
    (GA : FnOk P w K mg base CX0 (k + 1) fA fdA ["many"] spAll) (kA : PySem.W.keepIn K (.ref fA) = true) (bA : Binds K fdA ["many"] []) (gA : mg "all_bits" = some (.ref fA))
    (GB : FnOk P w K mg base CX0 (k + 2) fB fdB ["row", "carry", "bits"] spBo) (kB : PySem.W.keepIn K (.ref fB) = true) (bB : Binds K fdB ["row", "carry", "bits"] []) (gB : mg "bits_of" = some (.ref fB))
    (GC : FnOk P w K mg base CX0 (k + 3) fC fdC ["row", "carry", "told"] spCb) (kC : PySem.W.keepIn K (.ref fC) = true) (bC : Binds K fdC ["row", "carry", "told"] []) (gC : mg "carry_behind" = some (.ref fC)) : FnOk P w K mg base CX0 (k + 4) f fd ["row", "carry"] spSt := by
  refine F.ok sc_steps (fun vs H Q E h => ?_) (fun cdv A outer s H vs Q E hr h => ?_)
  · obtain ⟨R, C, m, o, ds, cs, rfl, _⟩ := h
    rfl
  · obtain ⟨R, C, m, o, ds, cs, rfl, hrow, hok, eC, hcl, q⟩ := h
    obtain ⟨D, rs, eR, eD, hd⟩ := id hrow
    have r1 := hr.mono (show k + 1 ≤ k + 3 by omega)
    have r2 := hr.mono (show k + 2 ≤ k + 3 by omega)
    refine ⟨_, pss_cons (ps_set (i := 2) sc_steps.nd rfl (.inl rfl) (pe_lst pa_nil))
      (pss_cons (ps_for PassesOwn.never rfl (pi_list (pe_call GA r1 (by rfl) gA kA bA .nil pass0 (pa_cons (pe_ix ix_tup (pv 0) pe_int (fun _ _ => rfl)) pa_nil))) (pg_name (i := 3) sc_steps.nd rfl (.inl rfl))
        (pss_cons (ps_set (i := 4) sc_steps.nd rfl (.inl rfl) (pe_call GB r2 (by rfl) gB kB bB .nil pass0 (pa_cons (pv 0) (pa_cons (pv 1) (pa_cons (pv 3) pa_nil)))))
        (pss_one (ps_expr (pe_bm PySem.F.plainAttrs_list PySem.F.slot_list_append PySem.F.type_list_append mt_append (pv 2) (pa_cons (pe_tup (pa_cons (pe_ix ix_tup (pv 4) (pe_ix ix_tup (pv 0) pe_int (fun _ _ => rfl)) (fun _ _ => rfl)) (pa_cons (pe_call GC hr (by rfl) gC kC bC .nil pass0 (pa_cons (pv 0) (pa_cons (pv 1) (pa_cons (pv 4) pa_nil)))) pa_nil))) pa_nil))))))
      (pss_one (ps_ret (pv 2)))), ?_⟩
    have m1 := hok.m1
    have m3 := hok.m3
    have l8 := hok.len
    refine ⟨Nat.zero_le _, fun L hL => ?_⟩
    have sL := same_new (o := .lst []) hL
    refine ⟨.ref R, rfl, R, _, 0, .int m, rfl, rfl, SqT.of (sL _ _ eR), rfl, m, rfl, by omega, fun H1 B fs s1 nB eB hf => ?_⟩
    have nLB : B ≠ L := fun z => by rw [z, upd_same] at nB; cases nB
    have fl : fs.length = 2 ^ m := by rw [awLen hf, allB_len]
    have f8 : fs.length ≤ 8 := by
      rw [fl]
      exact Nat.le_trans (Nat.pow_le_pow_right (by decide) (show m ≤ 3 by omega)) (by decide)
    have old : ∀ H5 o, Same H H5 → Same H (upd H5 L o) := fun H5 o s5 b u e => by
      rw [upd_ne (ne_of_none e hL)]
      exact s5 b u e
    refine ⟨B, rfl, ⟨_, .inl (.inl eB)⟩, for_list (K := K) (a := B) (xs := fs.map V.ref) (fun i σ H3 => ∃ y3 y4 ps, σ = [some (.ref R), some (.ref C), some (.ref L), y3, y4] ∧ H3 L = some (.lst (ps.map V.ref)) ∧ StAt H3 ps ((stp m ds o cs).take i) ∧ H3 B = some (.lst (fs.map V.ref)) ∧ TAt H3 fs (allB m) ∧ Same H H3)
      ⟨none, none, [], rfl, s1 _ _ upd_same, .nil, eB, hf, sL.trans s1⟩ (fun i σ H3 _ hp => ?_) (fun i x σ H3 hx hp => ?_) (fun σ H3 hp => ?_)⟩
    · obtain ⟨_, _, _, _, _, _, e, _⟩ := hp
      exact .inl (.inl e)
    · obtain ⟨y3, y4, ps, rfl, eL, hs, eB3, hf3, s3⟩ := hp
      have hi : i < fs.length := by
        have := (List.getElem?_eq_some_iff.mp hx).1
        rwa [List.length_map] at this
      have hx' : x = .ref fs[i] := by
        rw [List.getElem?_map, List.getElem?_eq_getElem hi] at hx
        exact (Option.some.inj hx).symm
      subst hx'
      obtain ⟨bs, hb1, hb2⟩ := awGet hf3 (List.getElem?_eq_getElem hi)
      obtain ⟨bl, bb⟩ := allB_ok m bs (List.mem_of_getElem? hb1)
      refine ⟨.ref R, rfl, .ref C, rfl, .ref fs[i], rfl, R, C, fs[i], m, o, ds, cs, bs, rfl, (Same.tups s3).row hrow, hok.deeds, by omega, s3 _ _ eC, hcl, hb2, by rw [bl], by omega, fun H4 T s4 nT eT => ?_⟩
      have tl : (bts ds cs bs).length = m + ds.length := by rw [bts_len hcl.symm, bl]
      have o0 := hok.o0
      have o1 := hok.o1
      refine ⟨.ref L, rfl, .inl ⟨rfl, _, .inl (.inl (s4 _ _ eL))⟩, .ref T, rfl, .ref R, rfl, R, _, 2, .int o, rfl, rfl, SqT.of (s4 _ _ (s3 _ _ eR)), rfl, T, _, o, _, rfl, rfl, SqT.of eT, atI_ints o0 (by omega), ?_⟩
      refine ⟨.ref R, rfl, .ref C, rfl, .ref T, rfl, R, C, T, m, o, ds, cs, _, rfl, (Same.tups (s3.trans s4)).row hrow, hok.deeds, by omega, s4 _ _ (s3 _ _ eC), hcl, eT, by rw [tl]; omega, fun H5 N s5 nN eN => ?_⟩
      refine ⟨by show 2 ≤ sizeLine; decide, fun p hp => ?_⟩
      have sp := same_new (o := .tup [.int ((bts ds cs bs).getD o.toNat 0), .ref N]) hp
      have s46 := (s4.trans s5).trans sp
      have eL6 := s46 _ _ eL
      have e1 : (stp m ds o cs)[i]? = some ((bts ds cs bs).getD o.toNat 0, nxt ds cs (bts ds cs bs)) := by
        unfold stp
        rw [List.getElem?_map, hb1]
        rfl
      have pl := awLen hs
      rw [List.length_take] at pl
      have tp := tups_put (o := .lst (ps.map V.ref ++ [V.ref p])) eL6
      refine ⟨L, _, _, rfl, rfl, eL6, ?_, some (.ref fs[i]), some (.ref T), ps ++ [p], rfl, ?_, ?_, ?_, ?_, ?_⟩
      · rw [List.length_map]
        exact small1000 (by omega)
      · rw [upd_same, List.map_append]
        rfl
      · rw [List.take_add_one, e1]
        exact stat_stay tp (awSnoc (F := fun (q : Addr) (e : Int × List Int) => ∃ c, (upd H5 p (.tup [.int ((bts ds cs bs).getD o.toNat 0), .ref N])) q = some (.tup [.int e.1, .ref c]) ∧ (upd H5 p (.tup [.int ((bts ds cs bs).getD o.toNat 0), .ref N])) c = some (.tup (e.2.map V.int))) ⟨N, upd_same, sp _ _ eN⟩ (stat_stay (Same.tups s46) hs))
      · rw [upd_ne nLB]
        exact s46 _ _ eB3
      · exact tat_stay tp (tat_stay (Same.tups s46) hf3)
      · exact old _ _ (s3.trans s46)
    · obtain ⟨y3, y4, ps, rfl, eL, hs, eB3, hf3, s3⟩ := hp
      rw [List.length_map, fl, ← stp_len m ds o cs, List.take_length] at hs
      exact ⟨.ref L, rfl, q _ L ps s3 hL eL hs⟩
/-! ### dicts by lists of ints -/
abbrev kI (c : List Int) : List Key := c.map Sum.inl
theorem kI_V (c : List Int) : (kI c).map kV = c.map V.int := by
  rw [List.map_map]
  rfl
theorem ints_inj : ∀ {a b : List Int}, a.map V.int = b.map V.int → a = b
  | [], [], _ => rfl
  | [], _ :: _, h => nomatch h
  | _ :: _, [], h => nomatch h
  | x :: a, y :: b, h => by
    rw [List.map_cons, List.map_cons, List.cons.injEq] at h
    rw [V.int.inj h.1, ints_inj h.2]
theorem kI_inj {a b : List Int} (h : kI a = kI b) : a = b := by
  have e := congrArg (List.map kV) h
  rw [kI_V, kI_V] at e
  exact ints_inj e
section tab
variable {α : Type}
def emb (f : α → V) (es : List (List Int × α)) : List (List Key × V) := es.map fun e => (kI e.1, f e.2)
def getA (es : List (List Int × α)) (c : List Int) : Option α := (es.find? fun e => decide (e.1 = c)).map (·.2)
def putA (es : List (List Int × α)) (c : List Int) (v : α) : List (List Int × α) := if c ∈ es.map (·.1) then es.map (fun e => if e.1 = c then (e.1, v) else e) else es ++ [(c, v)]
theorem emb_get (f : α → V) (c : List Int) : ∀ es : List (List Int × α), valV (emb f es) (kI c) = (getA es c).map f
  | [] => rfl
  | e :: es => by
    have ih := emb_get f c es
    unfold emb getA at *
    rw [List.map_cons, List.find?_cons]
    by_cases h : e.1 = c
    · rw [valV_pos (show (kI e.1, f e.2).1 = kI c by rw [h]), decide_eq_true h]
      rfl
    · rw [valV_neg (fun z => h (kI_inj z)), decide_eq_false h]
      exact ih
theorem getA_none {c : List Int} : ∀ {es : List (List Int × α)}, getA es c = none ↔ c ∉ es.map (·.1)
  | [] => by simp [getA]
  | e :: es => by
    have ih := getA_none (c := c) (es := es)
    unfold getA at *
    rw [List.find?_cons, List.map_cons, List.mem_cons, not_or]
    by_cases h : e.1 = c
    · simp [h]
    · rw [decide_eq_false h]
      exact ⟨fun z => ⟨fun y => h y.symm, ih.mp z⟩, fun z => ih.mpr z.2⟩
theorem getA_some {c : List Int} {v : α} {es : List (List Int × α)} (h : getA es c = some v) : (c, v) ∈ es := by
  unfold getA at h
  cases e : es.find? fun e => decide (e.1 = c) with
  | none => rw [e] at h; cases h
  | some p =>
    rw [e] at h
    have h1 := List.mem_of_find?_eq_some e
    have h2 : p.1 = c := of_decide_eq_true (List.find?_some (p := fun e : List Int × α => decide (e.1 = c)) e)
    obtain rfl : p.2 = v := Option.some.inj h
    rw [← h2]
    exact h1
theorem getA_of {c : List Int} {v : α} : ∀ {es : List (List Int × α)}, (es.map (·.1)).Nodup → (c, v) ∈ es → getA es c = some v
  | [], _, h => nomatch h
  | e :: es, nd, h => by
    rw [List.map_cons, List.nodup_cons] at nd
    unfold getA
    rw [List.find?_cons]
    rcases List.mem_cons.mp h with h | h
    · rw [← h]
      simp
    · have hne : ¬ e.1 = c := fun z => nd.1 (z ▸ List.mem_map.mpr ⟨_, h, rfl⟩)
      rw [decide_eq_false hne]
      exact getA_of nd.2 h
theorem emb_put (f : α → V) (es : List (List Int × α)) (c : List Int) (v : α) : putK (emb f es) (kI c) (f v) = emb f (putA es c v) := by
  unfold putK putA
  by_cases h : c ∈ es.map (·.1)
  · rw [if_pos h, if_pos]
    · unfold emb
      rw [List.map_map, List.map_map]
      apply List.map_congr_left
      intro e _
      show (if kI e.1 = kI c then (kI e.1, f v) else (kI e.1, f e.2)) = _
      by_cases he : e.1 = c
      · rw [if_pos (congrArg kI he)]
        simp [he]
      · rw [if_neg (fun z => he (kI_inj z))]
        simp [he]
    · rw [List.any_eq_true]
      obtain ⟨e, h1, h2⟩ := List.mem_map.mp h
      exact ⟨(kI e.1, f e.2), List.mem_map.mpr ⟨e, h1, rfl⟩, by simp [h2]⟩
  · rw [if_neg h, if_neg]
    · unfold emb
      rw [List.map_append]
      rfl
    · intro z
      rw [List.any_eq_true] at z
      obtain ⟨p, h1, h2⟩ := z
      obtain ⟨e, h3, rfl⟩ := List.mem_map.mp h1
      exact h (List.mem_map.mpr ⟨e, h3, kI_inj (of_decide_eq_true h2)⟩)
theorem putA_keys {es : List (List Int × α)} {c : List Int} {v : α} : (putA es c v).map (·.1) = if c ∈ es.map (·.1) then es.map (·.1) else es.map (·.1) ++ [c] := by
  unfold putA
  split
  · rw [List.map_map]
    apply List.map_congr_left
    intro e _
    show (if e.1 = c then (e.1, v) else e).1 = e.1
    split <;> rfl
  · rw [List.map_append]
    rfl
theorem putA_nodup {es : List (List Int × α)} {c : List Int} {v : α} (h : (es.map (·.1)).Nodup) : ((putA es c v).map (·.1)).Nodup := by
  rw [putA_keys]
  split
  · exact h
  · rename_i hn
    rw [List.nodup_append]
    refine ⟨h, by simp, fun a ha b hb => ?_⟩
    rw [List.mem_singleton.mp hb]
    exact fun z => hn (z ▸ ha)
theorem mem_putA {es : List (List Int × α)} {c : List Int} {v : α} {e : List Int × α} : e ∈ putA es c v ↔ e = (c, v) ∨ (e ∈ es ∧ e.1 ≠ c) := by
  unfold putA
  by_cases h : c ∈ es.map (·.1)
  · rw [if_pos h, List.mem_map]
    constructor
    · rintro ⟨a, h1, rfl⟩
      by_cases ha : a.1 = c
      · rw [if_pos ha, ha]
        exact .inl rfl
      · rw [if_neg ha]
        exact .inr ⟨h1, ha⟩
    · rintro (rfl | ⟨h1, h2⟩)
      · obtain ⟨a, h1, h2⟩ := List.mem_map.mp h
        exact ⟨a, h1, by rw [if_pos h2, h2]⟩
      · exact ⟨e, h1, if_neg h2⟩
  · rw [if_neg h, List.mem_append, List.mem_singleton]
    constructor
    · rintro (h1 | h1)
      · exact .inr ⟨h1, fun z => h (z ▸ List.mem_map.mpr ⟨e, h1, rfl⟩)⟩
      · exact .inl h1
    · rintro (h1 | h1)
      · exact .inr h1
      · exact .inl h1.1
end tab
/-- few: all keys are bits, as many as there are deeds -/
theorem few_keys {α : Type} {n : Nat} {es : List (List Int × α)} (nd : (es.map (·.1)).Nodup) (hb : ∀ e ∈ es, e.1.length = n ∧ ∀ x ∈ e.1, Bit x) (hn : n ≤ 8) : es.length ≤ 256 := by
  have h := pigeon (es.map (·.1)) (allB n) nd fun c hc => by
    obtain ⟨e, he, rfl⟩ := List.mem_map.mp hc
    exact allB_all n _ (hb e he).1 (hb e he).2
  rw [List.length_map, allB_len] at h
  exact Nat.le_trans h (Nat.le_trans (Nat.pow_le_pow_right (by decide) hn) (by decide))
/-! ### machines of all carries -/
abbrev MRow := List (Int × Int)
abbrev PrAt (H : Hp) : List Addr → MRow → Prop := Paired fun q e => H q = some (.tup [.int e.1, .int e.2])
theorem prat_stay {H H' : Hp} (t : TupsStay H H') {qs : List Addr} {r : MRow} (h : PrAt H qs r) : PrAt H' qs r := awMap (fun q e z => t _ _ z) h
def RowL (H : Hp) (l : Addr) (row : MRow) : Prop := ∃ qs, H l = some (.lst (qs.map V.ref)) ∧ PrAt H qs row
abbrev MacL (H : Hp) : List Addr → List MRow → Prop := Paired (RowL H)
theorem macl_stay {H H' : Hp} (t : TupsStay H H') : ∀ {ls : List Addr} {mac : List MRow}, (∀ l ∈ ls, ∀ xs, H l = some (.lst xs) → H' l = some (.lst xs)) → MacL H ls mac → MacL H' ls mac
  | _, _, _, .nil => .nil
  | _, _, k, .cons ⟨qs, h1, h2⟩ h => .cons ⟨qs, k _ List.mem_cons_self _ h1, prat_stay t h2⟩ (macl_stay t (fun l hl => k l (List.mem_cons_of_mem _ hl)) h)
def kC (c : List Int) : NestedKey := .tup (c.map .num)
theorem nums_inj : ∀ {a b : List Int}, a.map NestedKey.num = b.map NestedKey.num → a = b
  | [], [], _ => rfl
  | [], _ :: _, h => nomatch h
  | _ :: _, [], h => nomatch h
  | x :: a, y :: b, h => by
    rw [List.map_cons, List.map_cons, List.cons.injEq] at h
    rw [NestedKey.num.inj h.1, nums_inj h.2]
theorem kC_inj {a b : List Int} (h : kC a = kC b) : a = b := nums_inj (NestedKey.tup.inj h)
theorem nums_depth : ∀ c : List Int, NestedKey.depthAll (c.map .num) = 0
  | [] => by simp [NestedKey.depthAll]
  | x :: c => by simp [NestedKey.depthAll, NestedKey.depth, nums_depth c]
theorem kC_depth (c : List Int) : (kC c).depth ≤ 8 := by
  unfold kC
  simp [NestedKey.depth, nums_depth c]
theorem nks_ints (H : Hp) : ∀ c : List Int, NkAll H (c.map .num) (c.map V.int)
  | [] => .nil
  | x :: c => .cons (.num x) (nks_ints H c)
theorem nks_eq {H : Hp} : ∀ {c : List Int} {xs : List V}, NkAll H (c.map .num) xs → xs = c.map V.int
  | [], _, h => by
    cases h
    rfl
  | x :: c, _, h => by
    cases h with
    | cons h1 h2 =>
      cases h1
      rw [nks_eq h2]
      rfl
theorem keyC {H : Hp} {b : Addr} {c : List Int} (h : H b = some (.tup (c.map V.int))) : KeyN H (.ref b) (kC c) := ⟨.tup h (nks_ints H c), kC_depth c, b, rfl⟩
theorem keyC_tup {H : Hp} {b : Addr} {c : List Int} (h : KeyN H (.ref b) (kC c)) : H b = some (.tup (c.map V.int)) := by
  obtain ⟨h1, _⟩ := h
  unfold kC at h1
  cases h1 with
  | tup e hs =>
    rw [nks_eq hs] at e
    exact e
/-- a row of the machine of all carries -/
abbrev RowM (cs : List (List Int)) : MRow → List (Int × List Int) → Prop := Paired fun e s => e.1 = s.1 ∧ ∃ j : Nat, e.2 = (j : Int) ∧ cs[j]? = some s.2
structure WM (m : Nat) (ds : List Deed) (o : Int) (cs : List (List Int)) (mac : List MRow) : Prop where
  nd : cs.Nodup
  first : cs[0]? = some (ds.map fcD)
  bits : ∀ c ∈ cs, c.length = ds.length ∧ ∀ x ∈ c, Bit x
  each : ∀ (i : Nat) row, mac[i]? = some row → ∃ c, cs[i]? = some c ∧ RowM cs row (stp m ds o c)
theorem few_cs {n : Nat} {cs : List (List Int)} (nd : cs.Nodup) (hb : ∀ c ∈ cs, c.length = n ∧ ∀ x ∈ c, Bit x) (hn : n ≤ 8) : cs.length ≤ 256 := by
  have h := pigeon cs (allB n) nd fun c hc => allB_all n _ (hb c hc).1 (hb c hc).2
  rw [allB_len] at h
  exact Nat.le_trans h (Nat.le_trans (Nat.pow_le_pow_right (by decide) hn) (by decide))
theorem keys_nd {cs : List (List Int)} {ts : List WT} (h : (ts.map (·.1)).Nodup) (e : ts.map (·.1) = cs.map kC) : cs.Nodup := by
  rw [e] at h
  exact List.Pairwise.imp (fun {a b} z y => z (congrArg kC y)) (List.pairwise_map.mp h)
theorem keys_at {cs : List (List Int)} {ts : List WT} (e : ts.map (·.1) = cs.map kC) {i : Nat} {t : WT} (h : ts[i]? = some t) : ∃ c, cs[i]? = some c ∧ t.1 = kC c := by
  have h1 : (ts.map (·.1))[i]? = some t.1 := by rw [List.getElem?_map, h]; rfl
  rw [e, List.getElem?_map] at h1
  cases hc : cs[i]? with
  | none => rw [hc] at h1; cases h1
  | some c => rw [hc] at h1; exact ⟨c, rfl, (Option.some.inj h1).symm⟩
theorem keys_len {cs : List (List Int)} {ts : List WT} (e : ts.map (·.1) = cs.map kC) : ts.length = cs.length := by
  have := congrArg List.length e
  rwa [List.length_map, List.length_map] at this
def spWh : Sp := fun vs H Q _ => ∃ (R : Addr) (m : Nat) (o : Int) (ds : List Deed), vs = [.ref R] ∧ RowAt H R m ds o ∧ RowOk m ds o ∧
  ∀ H' p ls cs mac, Same H H' → H p = none → H' p = some (.lst (ls.map V.ref)) → MacL H' ls mac → WM m ds o cs mac → mac.length = cs.length → Q (.ref p) H'
theorem ok_wh {f fA fF fS fI fM C : Addr} {fd fdA fdF fdS fdI fdM : FuncData} {k : Nat} (F : Fun K "whole_machine" "whole_machine" s_whole_machine f fd) (T : WCls K mg C)
    (GA : FnOk P w K mg base CX0 (k + 1) fA fdA ["many"] spAll) (kA : PySem.W.keepIn K (.ref fA) = true) (bA : Binds K fdA ["many"] []) (gA : mg "all_bits" = some (.ref fA))
    (GF : FnOk P w K mg base CX0 (k + 1) fF fdF ["row"] spFc) (kF : PySem.W.keepIn K (.ref fF) = true) (bF : Binds K fdF ["row"] []) (gF : mg "first_carry" = some (.ref fF))
    (GS : FnOk P w K mg base CX0 (k + 4) fS fdS ["row", "carry"] spSt) (kS : PySem.W.keepIn K (.ref fS) = true) (bS : Binds K fdS ["row", "carry"] []) (gS : mg "steps" = some (.ref fS))
    (MK : Mk K C fI) (GI : FnOk P w K mg base CX0 (k + 1) fI fdI ["self", "first"] (spWi P w C)) (bI : Binds K fdI ["self", "first"] [])
    (MM : Meth K C "meet" fM) (GM : FnOk P w K mg base CX0 (k + 1) fM fdM ["self", "thing", "ahead", "bits"] (spWm P w C)) (bM : Binds K fdM ["self", "thing", "ahead", "bits"] [])
    (mn : mg "len" = none) (mz : mg "zip" = none) : FnOk P w K mg base CX0 (k + 5) f fd ["row"] spWh := by
  refine F.ok sc_whole_machine (fun vs H Q E h => ?_) (fun cdv A outer s H vs Q E hr h => ?_)
  · obtain ⟨R, m, o, ds, rfl, _⟩ := h
    rfl
  · obtain ⟨R, m, o, ds, rfl, hrow, hok, q⟩ := h
    obtain ⟨D, rs, eR, eD, hd⟩ := id hrow
    have r1 := hr.mono (show k + 1 ≤ k + 4 by omega)
    have r2 := hr.mono (show k + 1 + 1 ≤ k + 4 by omega)
    refine ⟨_, pss_cons (ps_set (i := 1) sc_whole_machine.nd rfl (.inl rfl) (pe_call GA r1 (by rfl) gA kA bA .nil pass0 (pa_cons (pe_ix ix_tup (pv 0) pe_int (fun _ _ => rfl)) pa_nil)))
      (pss_cons (ps_set (i := 2) sc_whole_machine.nd rfl (.inl rfl) (pe_make MK GI r2 (by rfl) T.mgC bI .nil pass0 (pa_cons (pe_call GF r1 (by rfl) gF kF bF .nil pass0 (pa_cons (pv 0) pa_nil)) pa_nil)))
      (pss_cons (ps_set (i := 3) sc_whole_machine.nd rfl (.inl rfl) (pe_lst pa_nil))
      (pss_cons (ps_while PassesOwn.never (pt_cmpR op_lt (pe_callB call_len_seq (by rfl) mn PySem.boot_len (pa_cons (pv 3) pa_nil)) (pe_callB call_len_seq (by rfl) mn PySem.boot_len (pa_cons (pe_fld (pv 2) rfl) pa_nil)) (nomark _))
        (pss_cons (ps_set (i := 4) sc_whole_machine.nd rfl (.inl rfl) (pe_callB call_len_seq (by rfl) mn PySem.boot_len (pa_cons (pv 3) pa_nil)))
        (pss_cons (ps_set (i := 5) sc_whole_machine.nd rfl (.inl rfl) (pe_ix ix_list (pe_fld (pv 2) rfl) (pv 4) (fun _ _ => rfl)))
        (pss_cons (ps_set (i := 6) sc_whole_machine.nd rfl (.inl rfl) (pe_lst pa_nil))
        (pss_cons (ps_for PassesOwn.never rfl (pi_zip (by rfl) mz (pa_cons (pv 1) (pa_cons (pe_call GS hr (by rfl) gS kS bS .nil pass0 (pa_cons (pv 0) (pa_cons (pv 5) pa_nil))) pa_nil))) (pg_tup rfl (pgs_cons (pg_name (i := 7) sc_whole_machine.nd rfl (.inl rfl)) (pgs_cons (pg_tup rfl (pgs_cons (pg_name (i := 8) sc_whole_machine.nd rfl (.inl rfl)) (pgs_cons (pg_name (i := 9) sc_whole_machine.nd rfl (.inl rfl)) pgs_nil))) pgs_nil)))
          (pss_one (ps_expr (pe_bm PySem.F.plainAttrs_list PySem.F.slot_list_append PySem.F.type_list_append mt_append (pv 6) (pa_cons (pe_tup (pa_cons (pv 8) (pa_cons (pe_meth (pv 2) T.cl MM GM r1 bM .nil pass0 (pa_cons (pv 9) (pa_cons (pv 4) (pa_cons (pv 7) pa_nil)))) pa_nil))) pa_nil)))))
        (pss_one (ps_expr (pe_bm PySem.F.plainAttrs_list PySem.F.slot_list_append PySem.F.type_list_append mt_append (pv 3) (pa_cons (pv 6) pa_nil)))))))))
      (pss_one (ps_ret (pv 3)))))), ?_⟩
    have l8 := hok.len
    have m3 := hok.m3
    refine ⟨.ref R, rfl, R, _, 0, .int m, rfl, rfl, SqT.of eR, rfl, m, rfl, by omega, fun H1 Ch fs s1 nCh eCh hf => ?_⟩
    have fl : fs.length = 2 ^ m := by rw [awLen hf, allB_len]
    refine ⟨.ref R, rfl, R, m, o, ds, rfl, (Same.tups s1).row hrow, by omega, fun H2 Fi s2 nFi eFi => ?_⟩
    intro Wk dx nWk ndx nex
    have tW : TupsStay H2 (upd (upd H2 dx (.own Wk)) Wk (.ins C dx [])) := fun c xs e => by
      rw [upd_ne (ne_of_none e nWk), upd_ne (ne_of_none e ndx)]
      exact e
    have kW : ∀ c u, H2 c = some u → upd (upd H2 dx (.own Wk)) Wk (.ins C dx []) c = some u := fun c u e => by
      rw [upd_ne (ne_of_none e nWk), upd_ne (ne_of_none e ndx)]
      exact e
    refine ⟨Wk, dx, Fi, kC (ds.map fcD), rfl, upd_same, keyC (tW _ _ eFi), fun H3 M N W hw nM nN nW kp => ⟨rfl, ?_⟩⟩
    have s3 : Same H2 H3 := fun c u e => kp c u (ne_of_none e nWk) (kW c u e)
    have s13 := (s1.trans s2).trans s3
    have back : ∀ a : Addr, upd (upd H2 dx (.own Wk)) Wk (.ins C dx []) a = none → H2 a = none := fun a h => by
      cases e : H2 a with
      | none => rfl
      | some u => rw [kW a u e] at h; cases h
    have hM2 := back _ nM
    have hN2 := back _ nN
    have hW2 := back _ nW
    have hM0 : H M = none := (s1.trans s2).free hM2
    have hN0 : H N = none := (s1.trans s2).free hN2
    have hW0 : H W = none := (s1.trans s2).free hW2
    have eCh2 := s2 _ _ eCh
    have nChM : Ch ≠ M := ne_of_none eCh2 hM2
    have nChN : Ch ≠ N := ne_of_none eCh2 hN2
    have nChW : Ch ≠ W := ne_of_none eCh2 hW2
    refine ⟨Nat.zero_le _, fun Mc hMc => ?_⟩
    have sMc := same_new (o := .lst []) hMc
    have nMM : Mc ≠ M := fun z => by rw [z, hw.met] at hMc; cases hMc
    have nMN : Mc ≠ N := fun z => by rw [z, hw.num.ob] at hMc; cases hMc
    have nMW : Mc ≠ W := fun z => by obtain ⟨ws, e, _⟩ := hw.ways; rw [z, e] at hMc; cases hMc
    have nMCh : Mc ≠ Ch := fun z => by rw [z, s3 _ _ eCh2] at hMc; cases hMc
    have hMc0 : H Mc = none := s13.free hMc
    refine ⟨fun n σ H4 => ∃ y4 y5 y6 y7 y8 y9 cs ts wy ls mac, σ = [some (.ref R), some (.ref Ch), some (.ref Wk), some (.ref Mc), y4, y5, y6, y7, y8, y9] ∧ WalkAt P w C H4 Wk M N W ts wy ∧ ts.map (·.1) = cs.map kC ∧ WM m ds o cs mac ∧ mac.length ≤ cs.length ∧ H4 Mc = some (.lst (ls.map V.ref)) ∧ MacL H4 ls mac ∧ (∀ l ∈ ls, l ≠ M ∧ l ≠ N ∧ l ≠ W ∧ l ≠ Mc) ∧ H4 Ch = some (.lst (fs.map V.ref)) ∧ TAt H4 fs (allB m) ∧ Same H H4 ∧ n = 257 - mac.length,
      ⟨_, none, none, none, none, none, none, [ds.map fcD], [(kC (ds.map fcD), Fi)], [(0, [])], [], [], rfl, hw.same sMc, rfl, ⟨by simp, rfl, fun c hc => ?_, fun i row h => by simp at h⟩, Nat.zero_le _, upd_same, .nil, (fun _ z => nomatch z), sMc _ _ (s3 _ _ eCh2), tat_stay (Same.tups ((s2.trans s3).trans sMc)) hf, s13.trans sMc, rfl⟩, fun n σ H4 hp => ?_⟩
    · rw [List.mem_singleton.mp hc]
      have sh := shp_first ds
      exact ⟨sh.len, sh.bits⟩
    obtain ⟨y4, y5, y6, y7, y8, y9, cs, ts, wy, ls, mac, rfl, hw4, ek, wm, ml, eMc, hmac, lsne, eCh4, hf4, s4, rfl⟩ := hp
    obtain ⟨dxw, ob4⟩ := hw4.ob
    have csl := keys_len ek
    have few := few_cs wm.nd wm.bits l8
    have mll := awLen hmac
    refine ⟨.ref Mc, rfl, Mc, _, rfl, .inl (.inl (.inl eMc)), .ref Wk, rfl, Wk, C, dxw, _, _, rfl, ob4, T.cl, T.nM, wF_met _ _ _, M, _, rfl, .inl (.inl (.inl hw4.met)), _, _, rfl, rfl, _, rfl, ite2 (fun e => ?_) (fun e => ?_)⟩
    · have lt : mac.length < cs.length := by
        have := of_decide_eq_true e
        rw [List.length_map, List.length_map] at this
        omega
      refine ⟨fun σ' H' => ∃ m', m' < 257 - mac.length ∧ (∃ y4 y5 y6 y7 y8 y9 cs ts wy ls mac, σ' = [some (.ref R), some (.ref Ch), some (.ref Wk), some (.ref Mc), y4, y5, y6, y7, y8, y9] ∧ WalkAt P w C H' Wk M N W ts wy ∧ ts.map (·.1) = cs.map kC ∧ WM m ds o cs mac ∧ mac.length ≤ cs.length ∧ H' Mc = some (.lst (ls.map V.ref)) ∧ MacL H' ls mac ∧ (∀ l ∈ ls, l ≠ M ∧ l ≠ N ∧ l ≠ W ∧ l ≠ Mc) ∧ H' Ch = some (.lst (fs.map V.ref)) ∧ TAt H' fs (allB m) ∧ Same H H' ∧ m' = 257 - mac.length), fun σ' H' z => z, ?_⟩
      have lenI : ((ls.map V.ref).length : Int) = ((mac.length : Nat) : Int) := by rw [List.length_map, mll]
      refine ⟨.ref Mc, rfl, Mc, _, rfl, .inl (.inl (.inl eMc)), ?_⟩
      rw [lenI]
      have hti : mac.length < ts.length := by omega
      obtain ⟨c0, hc0, ht1⟩ := keys_at ek (List.getElem?_eq_getElem hti)
      have hkey := hw4.keys _ (List.getElem_mem hti)
      rw [ht1] at hkey
      have ecb := keyC_tup hkey
      obtain ⟨c0l, c0b⟩ := wm.bits c0 (List.mem_of_getElem? hc0)
      refine ⟨.ref Wk, rfl, Wk, C, dxw, _, _, rfl, ob4, T.cl, T.nM, wF_met _ _ _, .int _, rfl, M, _, _, .ref (ts[mac.length]).2, rfl, rfl, .inl (.inl hw4.met), atI_nat (by rw [List.getElem?_map, List.getElem?_eq_getElem hti]; rfl), ?_⟩
      generalize (ts[mac.length]).2 = cb at ecb
      refine ⟨Nat.zero_le _, fun St hSt => ?_⟩
      have sSt := same_new (o := .lst []) hSt
      have nSM : St ≠ M := fun z => by rw [z, hw4.met] at hSt; cases hSt
      have nSN : St ≠ N := fun z => by rw [z, hw4.num.ob] at hSt; cases hSt
      have nSW : St ≠ W := fun z => by obtain ⟨ws, e, _⟩ := hw4.ways; rw [z, e] at hSt; cases hSt
      have nSMc : St ≠ Mc := fun z => by rw [z, eMc] at hSt; cases hSt
      have nSCh : St ≠ Ch := fun z => by rw [z, eCh4] at hSt; cases hSt
      have nSWk : St ≠ Wk := fun z => by rw [z, ob4] at hSt; cases hSt
      have nSls : ∀ l ∈ ls, l ≠ St := fun l hl z => by
        obtain ⟨i, hi⟩ := List.mem_iff_getElem?.mp hl
        obtain ⟨row, _, qs, h1, _⟩ := awGet hmac hi
        rw [z, hSt] at h1
        cases h1
      have hSt0 : H St = none := s4.free hSt
      refine ⟨.ref Ch, rfl, .ref R, rfl, .ref cb, rfl, R, cb, m, o, ds, c0, rfl, (Same.tups (s4.trans sSt)).row hrow, hok, sSt _ _ ecb, c0l, fun H5 Sp ps s5 nSp eSp hps => ?_⟩
      have s45 := sSt.trans s5
      have psl : ps.length = 2 ^ m := by rw [awLen hps, stp_len]
      have nSpM : Sp ≠ M := fun z => by rw [z, sSt _ _ hw4.met] at nSp; cases nSp
      have nSpN : Sp ≠ N := fun z => by rw [z, sSt _ _ hw4.num.ob] at nSp; cases nSp
      have nSpW : Sp ≠ W := fun z => by obtain ⟨ws, e, _⟩ := hw4.ways; rw [z, sSt _ _ e] at nSp; cases nSp
      have nSpS : Sp ≠ St := fun z => by rw [z, upd_same] at nSp; cases nSp
      have eCh5 := s45 _ _ eCh4
      have p8 : 2 ^ m ≤ 8 := Nat.le_trans (Nat.pow_le_pow_right (by decide) (show m ≤ 3 by omega)) (by decide)
      refine ⟨Ch, Sp, _, _, rfl, .inl (.inl eCh5), .inl (.inl eSp), for_it (walk_zip (K := K) (a := Ch) (b := Sp) (xs := fs.map V.ref) (ys := ps.map V.ref) (n := 2 ^ m) (by rw [List.length_map, List.length_map, fl, psl, Nat.min_self])) (fun j σ H6 => ∃ y7 y8 y9 cs' ts' wy' qs row, σ = [some (.ref R), some (.ref Ch), some (.ref Wk), some (.ref Mc), some (.int ((mac.length : Nat) : Int)), some (.ref cb), some (.ref St), y7, y8, y9] ∧ WalkAt P w C H6 Wk M N W ts' wy' ∧ ts'.map (·.1) = cs'.map kC ∧ (∀ (i : Nat) c, cs[i]? = some c → cs'[i]? = some c) ∧ (∀ c ∈ cs', c.length = ds.length ∧ ∀ x ∈ c, Bit x) ∧ H6 St = some (.lst (qs.map V.ref)) ∧ PrAt H6 qs row ∧ RowM cs' row ((stp m ds o c0).take j) ∧ ∀ b u, b ≠ M → b ≠ N → b ≠ W → b ≠ St → H5 b = some u → H6 b = some u)
        ⟨y7, y8, y9, cs, ts, wy, [], [], rfl, hw4.same s45, ek, fun _ _ z => z, wm.bits, s5 _ _ upd_same, .nil, .nil, fun _ _ _ _ _ _ z => z⟩ (fun j σ H6 _ hp => ?_) (fun j x σ H6 H7 hj hp hy => ?_) (fun σ H6 hp => ?_)⟩
      · obtain ⟨_, _, _, _, _, _, _, _, _, _, _, _, _, _, _, _, st⟩ := hp
        exact ⟨.inl (.inl (st _ _ nChM nChN nChW nSCh.symm eCh5)), .inl (.inl (st _ _ nSpM nSpN nSpW nSpS eSp))⟩
      · obtain ⟨y7, y8, y9, cs', ts', wy', qs, row, rfl, hw6, ek6, pre, bit6, eSt6, hpr, hrm, st⟩ := hp
        obtain ⟨U, x1, x2, rfl, hU, rfl, g1, g2⟩ := hy
        have tup5 : ∀ b xs, H5 b = some (.tup xs) → H6 b = some (.tup xs) := fun b xs e => st b _ (ne_of e (s45 _ _ hw4.met) (fun y => nomatch y)) (ne_of e (s45 _ _ hw4.num.ob) (fun y => nomatch y)) (by obtain ⟨ws, e2, _⟩ := hw4.ways; exact ne_of e (s45 _ _ e2) (fun y => nomatch y)) (ne_of e (s5 _ _ upd_same) (fun y => nomatch y)) e
        have hjf : j < fs.length := by omega
        have hjp : j < ps.length := by omega
        have e1 : x1 = .ref fs[j] := by
          have g1' : (fs.map V.ref)[j]? = some x1 := g1
          rw [List.getElem?_map, List.getElem?_eq_getElem hjf] at g1'
          exact (Option.some.inj g1').symm
        have e2 : x2 = .ref ps[j] := by
          have g2' : (ps.map V.ref)[j]? = some x2 := g2
          rw [List.getElem?_map, List.getElem?_eq_getElem hjp] at g2'
          exact (Option.some.inj g2').symm
        subst e1 e2
        obtain ⟨bs, hb1, hb2⟩ := awGet hf4 (List.getElem?_eq_getElem hjf)
        obtain ⟨sb, hs1, ac, hs2, hs3⟩ := awGet hps (List.getElem?_eq_getElem hjp)
        have sU := same_new (o := .tup [.ref fs[j], .ref ps[j]]) hU
        have eb7 := sU _ _ (tup5 _ _ (s45 _ _ hb2))
        have e27 := sU _ _ (tup5 _ _ hs2)
        have e37 := sU _ _ (tup5 _ _ hs3)
        refine ⟨U, [.ref fs[j], .ref ps[j]], rfl, .inl (.inl upd_same), rfl, .ref fs[j], [.ref ps[j]], rfl, .ref ps[j], [], rfl, ps[j], [.int sb.1, .ref ac], rfl, .inl (.inl e27), rfl, .int sb.1, [.ref ac], rfl, .ref ac, [], rfl, rfl, rfl, ?_⟩
        have nUs : U ≠ St := fun z => by rw [z, eSt6] at hU; cases hU
        obtain ⟨dx6, ob6⟩ := hw6.ob
        have hw7 := hw6.same sU
        have l6 := keys_len ek6
        have few6 := few_cs (keys_nd hw6.nd ek6) bit6 l8
        refine ⟨.ref St, rfl, .inl ⟨rfl, _, .inl (.inl (sU _ _ eSt6))⟩, .int sb.1, rfl, .ref Wk, rfl, Wk, dx6, _, rfl, sU _ _ ob6, wF_meet _ _ _, .ref ac, rfl, .int ((mac.length : Nat) : Int), rfl, .ref fs[j], rfl, Wk, M, N, W, ac, fs[j], ts', wy', kC sb.2, ((mac.length : Nat) : Int), bs, rfl, hw7, keyC e37, eb7, by omega, fun H8 ts2 wy2 ix hw8 hix hcase kp8 => ?_⟩
        refine ⟨by show 2 ≤ sizeLine; decide, fun Pq hPq => ?_⟩
        have sP := same_new (o := .tup [.int sb.1, .int ((ix : Nat) : Int)]) hPq
        have eSt8 := kp8 _ _ nSM nSN nSW (sU _ _ eSt6)
        have hrl := awLen hpr
        have hrl2 := awLen hrm
        rw [List.length_take, stp_len] at hrl2
        have s8t : TupsStay H6 (upd H8 Pq (.tup [.int sb.1, .int ((ix : Nat) : Int)])) := fun b xs e => by
          have e7 := sU _ _ e
          obtain ⟨ws7, ew7, _⟩ := hw7.ways
          exact sP _ _ (kp8 b _ (ne_of e7 hw7.met (fun y => nomatch y)) (ne_of e7 hw7.num.ob (fun y => nomatch y)) (ne_of e7 ew7 (fun y => nomatch y)) e7)
        have nPS : Pq ≠ St := fun z => by rw [z, eSt8] at hPq; cases hPq
        have eSt9 := sP _ _ eSt8
        have tS := tups_put (o := .lst (qs.map V.ref ++ [V.ref Pq])) eSt9
        -- the carries so far
        obtain ⟨cs2, ek2, pre2, bit2, hcx⟩ : ∃ cs2 : List (List Int), ts2.map (·.1) = cs2.map kC ∧ (∀ (i : Nat) c, cs'[i]? = some c → cs2[i]? = some c) ∧ (∀ c ∈ cs2, c.length = ds.length ∧ ∀ x ∈ c, Bit x) ∧ cs2[ix]? = some sb.2 := by
          obtain ⟨b', hb'⟩ := hix
          rcases hcase with ⟨rfl, rfl⟩ | ⟨rfl, rfl, rfl, _⟩
          · obtain ⟨c, hc, ec⟩ := keys_at ek6 hb'
            exact ⟨cs', ek6, fun _ _ z => z, bit6, by rw [hc, kC_inj ec]⟩
          · refine ⟨cs' ++ [sb.2], by rw [List.map_append, List.map_append, ek6]; rfl, fun i c z => ?_, fun c hc => ?_, ?_⟩
            · rw [List.getElem?_append_left (List.getElem?_eq_some_iff.mp z).1]
              exact z
            · rcases List.mem_append.mp hc with hc | hc
              · exact bit6 c hc
              · rw [List.mem_singleton.mp hc]
                obtain ⟨bs', h1, e⟩ := List.mem_map.mp (List.mem_of_getElem? hs1)
                rw [← e]
                exact ⟨nxt_len c0l.symm, nxt_bits (bts_bits (allB_ok m bs' h1).2 c0b) c0b⟩
            · rw [l6, List.getElem?_append_right (Nat.le_refl _), Nat.sub_self]
              rfl
        refine ⟨St, _, _, rfl, rfl, eSt9, ?_, _, _, _, cs2, ts2, wy2, qs ++ [Pq], row ++ [(sb.1, ((ix : Nat) : Int))], rfl, ?_, ek2, fun i c z => pre2 i c (pre i c z), bit2, ?_, ?_, ?_, ?_⟩
        · rw [List.length_map]
          exact small1000 (by omega)
        · refine (hw8.same sP).stay tS fun c u hc e => ?_
          rw [upd_ne ?_]
          · exact e
          · rcases hc with rfl | rfl | rfl | rfl
            · exact nSWk.symm
            · exact nSM.symm
            · exact nSN.symm
            · exact nSW.symm
        · rw [upd_same, List.map_append]
          rfl
        · exact awSnoc (F := fun (q : Addr) (e : Int × Int) => (upd (upd H8 Pq (.tup [.int sb.1, .int ((ix : Nat) : Int)])) St (.lst (qs.map V.ref ++ [V.ref Pq]))) q = some (.tup [.int e.1, .int e.2])) (tS _ _ upd_same) (prat_stay tS (prat_stay s8t hpr))
        · rw [List.take_add_one, hs1]
          exact awSnoc (F := fun (e : Int × Int) (s : Int × List Int) => e.1 = s.1 ∧ ∃ j : Nat, e.2 = (j : Int) ∧ cs2[j]? = some s.2) ⟨rfl, ix, rfl, hcx⟩ (awMap (fun e s z => ⟨z.1, z.2.elim fun i y => ⟨i, y.1, pre2 i _ y.2⟩⟩) hrm)
        · intro b u n1 n2 n3 n4 e
          rw [upd_ne n4]
          exact sP _ _ (kp8 b u n1 n2 n3 (sU _ _ (st b u n1 n2 n3 n4 e)))
      · obtain ⟨y7, y8, y9, cs', ts', wy', qs, row, rfl, hw6, ek6, pre, bit6, eSt6, hpr, hrm, st⟩ := hp
        rw [← stp_len m ds o c0, List.take_length] at hrm
        have eMc6 := st _ _ nMM nMN nMW nSMc.symm (s45 _ _ eMc)
        have tup5 : TupsStay H5 H6 := fun b xs e => st b _ (ne_of e (s45 _ _ hw4.met) (fun y => nomatch y)) (ne_of e (s45 _ _ hw4.num.ob) (fun y => nomatch y)) (by obtain ⟨ws, e2, _⟩ := hw4.ways; exact ne_of e (s45 _ _ e2) (fun y => nomatch y)) (ne_of e (s5 _ _ upd_same) (fun y => nomatch y)) e
        have t46 : TupsStay H4 H6 := (Same.tups s45).trans tup5
        have tM := tups_put (o := .lst (ls.map V.ref ++ [V.ref St])) eMc6
        refine ⟨.ref Mc, rfl, .inl ⟨rfl, _, .inl (.inl eMc6)⟩, .ref St, rfl, Mc, _, _, rfl, rfl, eMc6, ?_, _, ?_, _, _, _, _, _, _, cs', ts', wy', ls ++ [St], mac ++ [row], rfl, ?_, ek6, ⟨keys_nd hw6.nd ek6, pre _ _ wm.first, bit6, fun i r hi => ?_⟩, ?_, ?_, ?_, fun l hl => ?_, ?_, tat_stay tM (tat_stay t46 hf4), ?_, rfl⟩
        · rw [List.length_map]
          exact small1000 (by omega)
        · rw [List.length_append]
          show 257 - (mac.length + 1) < 257 - mac.length
          omega
        · refine hw6.stay tM fun c u hc e => ?_
          rw [upd_ne ?_]
          · exact e
          · obtain ⟨dx6, ob6⟩ := hw6.ob
            rcases hc with rfl | rfl | rfl | rfl
            · exact ne_of ob6 eMc6 (fun y => nomatch y)
            · exact nMM.symm
            · exact nMN.symm
            · exact nMW.symm
        · by_cases hil : i < mac.length
          · rw [List.getElem?_append_left hil] at hi
            obtain ⟨c, h1, h2⟩ := wm.each i r hi
            exact ⟨c, pre _ _ h1, awMap (fun e s z => ⟨z.1, z.2.elim fun i y => ⟨i, y.1, pre i _ y.2⟩⟩) h2⟩
          · rw [List.getElem?_append_right (by omega)] at hi
            have hi2 := (List.getElem?_eq_some_iff.mp hi).1
            simp only [List.length_cons, List.length_nil] at hi2
            have ei : i = mac.length := by omega
            subst ei
            rw [Nat.sub_self] at hi
            obtain rfl := Option.some.inj hi
            exact ⟨c0, pre _ _ hc0, hrm⟩
        · rw [List.length_append]
          have h1 := (List.getElem?_eq_some_iff.mp (pre _ _ hc0)).1
          show mac.length + 1 ≤ cs'.length
          omega
        · rw [upd_same, List.map_append]
          rfl
        · refine awSnoc (F := RowL (upd H6 Mc (.lst (ls.map V.ref ++ [V.ref St])))) ⟨qs, ?_, prat_stay tM hpr⟩ (macl_stay (t46.trans tM) (fun l hl xs e => ?_) hmac)
          · rw [upd_ne nSMc]
            exact eSt6
          · obtain ⟨l1, l2, l3, l4⟩ := lsne l hl
            rw [upd_ne l4]
            exact st _ _ l1 l2 l3 (nSls l hl) (s45 _ _ e)
        · rcases List.mem_append.mp hl with hl | hl
          · exact lsne l hl
          · rw [List.mem_singleton.mp hl]
            exact ⟨nSM, nSN, nSW, nSMc⟩
        · rw [upd_ne nMCh.symm]
          exact st _ _ nChM nChN nChW nSCh.symm eCh5
        · intro b u e
          have e5 := s45 _ _ (s4 b u e)
          rw [upd_ne (ne_of_none e hMc0)]
          exact st b u (ne_of_none e hM0) (ne_of_none e hN0) (ne_of_none e hW0) (ne_of_none e hSt0) e5
    · have nlt : ¬ mac.length < cs.length := fun z => e (by
        apply decide_eq_true
        rw [List.length_map, List.length_map]
        omega)
      exact ⟨.ref Mc, rfl, q H4 Mc ls cs mac s4 hMc0 eMc hmac wm (by omega)⟩
/-! ### numbered -/
abbrev zs (ns : List Nat) : List Int := ns.map Int.ofNat
structure NumOf (ks : List NestedKey) (ns : List Nat) : Prop where
  len : ns.length = ks.length
  inj : ∀ (i j a : Nat) x y, ns[i]? = some a → ns[j]? = some a → ks[i]? = some x → ks[j]? = some y → x = y
  rg : ∀ i v : Nat, ns[i]? = some (v + 1) → ∃ j, j < i ∧ ns[j]? = some v
structure FI (ks : List NestedKey) (i : Nat) (us : List NestedKey) : Prop where
  nd : us.Nodup
  all : ∀ (j : Nat) k, j < i → ks[j]? = some k → k ∈ us
  src : ∀ k ∈ us, ∃ j, j < i ∧ ks[j]? = some k
  rg : ∀ (v j : Nat) k, us[v + 1]? = some k → ks[j]? = some k → ∃ j' k', j' < j ∧ us[v]? = some k' ∧ ks[j']? = some k'
  len : us.length ≤ i
theorem FI.zero {ks : List NestedKey} : FI ks 0 [] := ⟨.nil, (fun j k h => absurd h (Nat.not_lt_zero _)), (fun _ z => nomatch z), (fun v j k h => by simp at h), Nat.le_refl _⟩
theorem FI.old {ks us : List NestedKey} {i : Nat} {k : NestedKey} (h : FI ks i us) (hk : ks[i]? = some k) (hm : k ∈ us) : FI ks (i + 1) us := by
  refine ⟨h.nd, fun j k' hj e => ?_, fun k' hk' => ?_, h.rg, Nat.le_succ_of_le h.len⟩
  · by_cases hji : j = i
    · rw [hji, hk] at e
      exact Option.some.inj e ▸ hm
    · exact h.all j k' (by omega) e
  · obtain ⟨j, h1, h2⟩ := h.src k' hk'
    exact ⟨j, by omega, h2⟩
theorem FI.new {ks us : List NestedKey} {i : Nat} {k : NestedKey} (h : FI ks i us) (hk : ks[i]? = some k) (hm : k ∉ us) : FI ks (i + 1) (us ++ [k]) := by
  refine ⟨?_, fun j k' hj e => ?_, fun k' hk' => ?_, fun v j k' hv e => ?_, by rw [List.length_append]; exact Nat.succ_le_succ h.len⟩
  · rw [List.nodup_append]
    refine ⟨h.nd, by simp, fun a ha b hb => ?_⟩
    rw [List.mem_singleton.mp hb]
    exact fun z => hm (z ▸ ha)
  · by_cases hji : j = i
    · rw [hji, hk] at e
      rw [← Option.some.inj e]
      simp
    · exact List.mem_append_left _ (h.all j k' (by omega) e)
  · rcases List.mem_append.mp hk' with h1 | h1
    · obtain ⟨j, h2, h3⟩ := h.src k' h1
      exact ⟨j, by omega, h3⟩
    · rw [List.mem_singleton.mp h1]
      exact ⟨i, by omega, hk⟩
  · by_cases hl : v + 1 < us.length
    · rw [List.getElem?_append_left hl] at hv
      obtain ⟨j', k2, h1, h2, h3⟩ := h.rg v j k' hv e
      exact ⟨j', k2, h1, by rw [List.getElem?_append_left (by omega)]; exact h2, h3⟩
    · rw [List.getElem?_append_right (by omega)] at hv
      have hv0 : v + 1 - us.length = 0 := by
        have := (List.getElem?_eq_some_iff.mp hv).1
        simp at this
        exact this
      rw [hv0] at hv
      have hkk : k = k' := by simpa using hv
      subst hkk
      have hlv : v < us.length := by omega
      obtain ⟨j', h1, h2⟩ := h.src us[v] (List.getElem_mem hlv)
      refine ⟨j', us[v], ?_, by rw [List.getElem?_append_left hlv, List.getElem?_eq_getElem hlv], h2⟩
      by_cases hji : j < i
      · exact absurd (h.all j k hji e) hm
      · omega
def idxN (us : List NestedKey) (k : NestedKey) : Nat := us.findIdx fun u => decide (u = k)
theorem idxN_at {us : List NestedKey} {k : NestedKey} (h : k ∈ us) : us[idxN us k]? = some k := by
  have hl : idxN us k < us.length := List.findIdx_lt_length_of_exists ⟨k, h, by simp⟩
  rw [List.getElem?_eq_getElem hl]
  exact congrArg some (of_decide_eq_true (List.findIdx_getElem (w := hl)))
theorem FI.done {ks us : List NestedKey} (h : FI ks ks.length us) : NumOf ks (ks.map (idxN us)) := by
  have key : ∀ (i a : Nat), (ks.map (idxN us))[i]? = some a → ∃ x, ks[i]? = some x ∧ us[a]? = some x := fun i a e => by
    rw [List.getElem?_map] at e
    cases hx : ks[i]? with
    | none => rw [hx] at e; cases e
    | some x =>
      rw [hx] at e
      have e' : idxN us x = a := Option.some.inj e
      exact ⟨x, rfl, e' ▸ idxN_at (h.all i x (List.getElem?_eq_some_iff.mp hx).1 hx)⟩
  refine ⟨List.length_map _, fun i j a x y h1 h2 h3 h4 => ?_, fun i v e => ?_⟩
  · obtain ⟨x', e1, e2⟩ := key i a h1
    obtain ⟨y', e3, e4⟩ := key j a h2
    rw [h3] at e1
    rw [h4] at e3
    rw [Option.some.inj e1, Option.some.inj e3]
    exact Option.some.inj (e2.symm.trans e4)
  · obtain ⟨x, e1, e2⟩ := key i _ e
    obtain ⟨j', k', h1, h2, h3⟩ := h.rg v i x e2 e1
    refine ⟨j', h1, ?_⟩
    rw [List.getElem?_map, h3]
    have hk' := h.all j' k' (List.getElem?_eq_some_iff.mp h3).1 h3
    have := idxN_at hk'
    exact congrArg some ((List.getElem?_inj (List.getElem?_eq_some_iff.mp this).1 h.nd).mp (this.trans h2.symm))
theorem NumOf.le {ks : List NestedKey} {ns : List Nat} (h : NumOf ks ns) : ∀ (v i : Nat), ns[i]? = some v → v ≤ i
  | 0, _, _ => Nat.zero_le _
  | v + 1, i, e => by
    obtain ⟨j, h1, h2⟩ := h.rg i v e
    have := h.le v j h2
    omega
abbrev KeysAt (H : Hp) : List Addr → List NestedKey → Prop := Paired fun b k => KeyN H (.ref b) k
theorem keysat_stay {H H' : Hp} (t : TupsStay H H') {bs : List Addr} {ks : List NestedKey} (h : KeysAt H bs ks) : KeysAt H' bs ks := awMap (fun b k z => keyn_stay t z) h
def spNu : Sp := fun vs H Q _ => ∃ (L : Addr) (bs : List Addr) (ks : List NestedKey), vs = [.ref L] ∧ H L = some (.lst (bs.map V.ref)) ∧ KeysAt H bs ks ∧ bs.length ≤ 256 ∧
  ∀ H' p ns, Same H H' → H p = none → H' p = some (.lst ((zs ns).map V.int)) → NumOf ks ns → Q (.ref p) H'
theorem ok_nu {f : Addr} {fd : FuncData} {k : Nat} (F : Fun K "numbered" "numbered" s_numbered f fd) (mn : mg "len" = none) : FnOk P w K mg base CX0 (k + 1) f fd ["looks"] spNu := by
  refine F.ok sc_numbered (fun vs H Q E h => ?_) (fun cdv A outer s H vs Q E hr h => ?_)
  · obtain ⟨L, bs, ks, rfl, _⟩ := h
    rfl
  · obtain ⟨L, bs, ks, rfl, eL, hk, hl, q⟩ := h
    refine ⟨_, pss_cons (ps_set (i := 1) sc_numbered.nd rfl (.inr rfl) (pe_ndnew (P := P) (w := w) rfl rfl))
      (pss_cons (ps_for PassesOwn.never rfl (pi_list (pv 0)) (pg_name (i := 2) sc_numbered.nd rfl (.inl rfl))
        (pss_one (ps_expr (pe_nsetd (P := P) (w := w) rfl rfl hr.units (pv 1) (pa_cons (pv 2) (pa_cons (pe_callB (call_lenN (P := P) (w := w) rfl rfl) (by rfl) mn PySem.boot_len (pa_cons (pv 1) pa_nil)) pa_nil))))))
      (pss_one (ps_ret (pe_lc (own := [("look", 2)]) (g := gName 2) (by rfl) sc_numbered.nd (pi_list (pv 0)) (blkOk_by (own := [("look", 2)]) (N := N_numbered) (sc := defScope s_numbered) (by decide +kernel))
        (fun _ _ _ _ _ => pg_name (i := 2) sc_numbered.nd rfl (Or.inl rfl)) (fun _ _ _ _ _ => pts_nil) (fun _ _ _ _ _ => pe_ndget (P := P) (w := w) rfl rfl hr.units (pv 1) (pv 2) (fun _ _ => rfl)))))), ?_⟩
    intro N hN
    have sN := same_new (o := NDO P w N []) hN
    have nLN : L ≠ N := ne_of_none eL hN
    have kl := awLen hk
    refine ⟨.ref L, rfl, L, rfl, ⟨_, .inl (.inl (sN _ _ eL))⟩, for_list (K := K) (a := L) (xs := bs.map V.ref) (fun i σ H3 => ∃ y2 ts, σ = [some (.ref L), some (.ref N), y2] ∧ ND P w H3 N (numE ts) ∧ FI ks i (ts.map (·.1)) ∧ Same H H3)
      ⟨none, [], rfl, nd_nil, FI.zero, sN⟩ (fun i σ H3 _ hp => ?_) (fun i x σ H3 hx hp => ?_) (fun σ H3 hp => ?_)⟩
    · obtain ⟨_, _, _, _, _, s3⟩ := hp
      exact .inl (.inl (s3 _ _ eL))
    · obtain ⟨y2, ts, rfl, nd3, fi, s3⟩ := hp
      have hi : i < bs.length := by
        have := (List.getElem?_eq_some_iff.mp hx).1
        rwa [List.length_map] at this
      have hx' : x = .ref bs[i] := by
        rw [List.getElem?_map, List.getElem?_eq_getElem hi] at hx
        exact (Option.some.inj hx).symm
      subst hx'
      obtain ⟨key, hk1, hk2⟩ := awGet hk (List.getElem?_eq_getElem hi)
      have hk3 := keyn_stay (Same.tups s3) hk2
      have tl := fi.len
      rw [List.length_map] at tl
      refine ⟨.ref N, rfl, ⟨N, _, rfl, nd3⟩, .ref bs[i], rfl, .ref N, rfl, N, _, rfl, nd3, N, _, key, bs[i], _, rfl, rfl, nd3, hk3, ?_, fun y hy => ?_, fun hn => ?_⟩
      · rw [numE_len]
        exact small1000 (by omega)
      · obtain ⟨b, hb⟩ := getN_some hy
        obtain ⟨j, t, ht, he⟩ := numE_mem hb
        have : key ∈ ts.map (·.1) := List.mem_map.mpr ⟨t, List.mem_of_getElem? ht, (Prod.mk.inj he).1.symm⟩
        exact ⟨some (.ref bs[i]), ts, rfl, nd3, fi.old hk1 this, s3⟩
      · have nm : key ∉ ts.map (·.1) := fun z => by
          obtain ⟨t, h1, h2⟩ := List.mem_map.mp z
          obtain ⟨j, hj⟩ := List.mem_iff_getElem?.mp h1
          have := numE_some (k := key) (b := t.2) fi.nd (by rw [hj, ← h2])
          rw [hn] at this
          cases this
        refine ⟨some (.ref bs[i]), ts ++ [(key, bs[i])], rfl, ?_, ?_, fun b u e => ?_⟩
        · rw [numE_snoc, numE_len]
          exact nd_put nd3 hk3
        · rw [List.map_append]
          exact fi.new hk1 nm
        · rw [upd_ne (ne_of_none e hN)]
          exact s3 b u e
    · obtain ⟨y2, ts, rfl, nd3, fi, s3⟩ := hp
      rw [List.length_map, kl] at fi
      refine ⟨.ref L, rfl, L, rfl, ⟨_, .inl (.inl (s3 _ _ eL))⟩, fun D hD => ?_⟩
      refine lc_it (walk_list (K := K) (a := L) (xs := bs.map V.ref)) (fun i H4 => H4 D = some (.lst ((zs ((ks.map (idxN (ts.map (·.1)))).take i)).map V.int)) ∧ Same H3 H4) ⟨upd_same, same_new hD⟩ (fun i H4 _ hp => .inl (.inl (hp.2 _ _ (s3 _ _ eL)))) (fun i x H4 H5 hi hp hy => ?_) (fun H4 hp => ?_)
      · obtain ⟨eD, s4⟩ := hp
        obtain ⟨rfl, hx⟩ := hy
        have hi2 : i < bs.length := by rwa [List.length_map] at hi
        have hx' : x = .ref bs[i] := by
          rw [List.getElem?_map, List.getElem?_eq_getElem hi2] at hx
          exact (Option.some.inj hx).symm
        subst hx'
        obtain ⟨key, hk1, hk2⟩ := awGet hk (List.getElem?_eq_getElem hi2)
        have hm := fi.all i key (by omega) hk1
        have hat := idxN_at hm
        obtain ⟨t, ht1, ht2⟩ : ∃ t, ts[idxN (ts.map (·.1)) key]? = some t ∧ t.1 = key := by
          rw [List.getElem?_map] at hat
          cases ht : ts[idxN (ts.map (·.1)) key]? with
          | none => rw [ht] at hat; cases hat
          | some t => rw [ht] at hat; exact ⟨t, rfl, Option.some.inj hat⟩
        have hg := numE_some (k := key) (b := t.2) fi.nd (by rw [ht1, ← ht2])
        refine ⟨rfl, .ref N, rfl, .ref bs[i], rfl, N, _, key, _, rfl, nd_same nd3 s4, keyn_stay (Same.tups (s3.trans s4)) hk2, hg, _, eD, ?_, ?_, fun b u e => ?_⟩
        · rw [List.length_map, List.length_map, List.length_take]
          exact small1000 (by omega)
        · rw [upd_same, List.take_add_one, List.getElem?_map, hk1]
          simp [zs]
        · rw [upd_ne (ne_of_none e hD)]
          exact s4 b u e
      · obtain ⟨eD, s4⟩ := hp
        rw [List.length_map, kl, ← List.length_map (f := idxN (ts.map (·.1))), List.take_length] at eD
        exact q H4 D _ (s3.trans s4) (s3.free hD) eD fi.done
/-! ### kinds_of_states -/
abbrev RG (ns : List Nat) : Prop := ∀ i v : Nat, ns[i]? = some (v + 1) → ∃ j, j < i ∧ ns[j]? = some v
abbrev Finer (ns ps : List Nat) : Prop := ∀ i j a x y : Nat, ns[i]? = some a → ns[j]? = some a → ps[i]? = some x → ps[j]? = some y → x = y
theorem rg_down {ps : List Nat} (rg : RG ps) : ∀ d v i : Nat, ps[i]? = some (v + d) → ∃ j : Nat, ps[j]? = some v
  | 0, v, i, h => ⟨i, h⟩
  | d + 1, v, i, h => by
    obtain ⟨j, _, h2⟩ := rg i (v + d) h
    exact rg_down rg d v j h2
theorem coarse {ps ns : List Nat} {M m : Nat} (hl : ps.length = ns.length) (rgp : RG ps) (hM : M ∈ ps) (hm : ∀ x ∈ ns, x ≤ m) (hle : m ≤ M) (ref : Finer ns ps) : Finer ps ns := by
  have at_ : ∀ v, v ≤ M → ∃ i : Nat, ps[i]? = some v := fun v hv => by
    obtain ⟨i, hi⟩ := List.mem_iff_getElem?.mp hM
    exact rg_down rgp (M - v) v i (by rw [hi]; congr 1; omega)
  let r : Nat → Nat := fun v => ps.findIdx fun u => decide (u = v)
  have hr : ∀ v, v ≤ M → ps[r v]? = some v := fun v hv => by
    obtain ⟨i, hi⟩ := at_ v hv
    have hlt : r v < ps.length := List.findIdx_lt_length_of_exists ⟨v, List.mem_of_getElem? hi, by simp⟩
    rw [List.getElem?_eq_getElem hlt]
    exact congrArg some (of_decide_eq_true (List.findIdx_getElem (w := hlt)))
  have hn : ∀ v, v ≤ M → ∃ a, ns[r v]? = some a ∧ ns.getD (r v) 0 = a := fun v hv => by
    have hlt : r v < ns.length := by
      rw [← hl]
      exact (List.getElem?_eq_some_iff.mp (hr v hv)).1
    exact ⟨ns[r v], List.getElem?_eq_getElem hlt, by simp [List.getD, List.getElem?_eq_getElem hlt]⟩
  have nd : ((List.range (M + 1)).map fun v => ns.getD (r v) 0).Nodup := by
    refine List.pairwise_map.mpr (List.Pairwise.imp_of_mem (fun {a b} ha hb hab z => hab ?_) List.nodup_range)
    rw [List.mem_range] at ha hb
    obtain ⟨x, h1, h2⟩ := hn a (by omega)
    obtain ⟨y, h3, h4⟩ := hn b (by omega)
    rw [h2, h4] at z
    subst z
    exact ref _ _ x a b h1 h3 (hr a (by omega)) (hr b (by omega))
  have cov : ∀ x, x ∈ ns → ∃ v, v ≤ M ∧ ns[r v]? = some x := fun x hx => by
    by_cases h : x ∈ (List.range (M + 1)).map fun v => ns.getD (r v) 0
    · obtain ⟨v, h1, h2⟩ := List.mem_map.mp h
      rw [List.mem_range] at h1
      obtain ⟨a, h3, h4⟩ := hn v (by omega)
      exact ⟨v, by omega, by rw [h3, ← h4, ← h2]⟩
    · exfalso
      have := pigeon (x :: (List.range (M + 1)).map fun v => ns.getD (r v) 0) (List.range (M + 1)) (List.nodup_cons.mpr ⟨h, nd⟩) fun y hy => by
        rw [List.mem_range]
        rcases List.mem_cons.mp hy with rfl | hy
        · have := hm _ hx
          omega
        · obtain ⟨v, h1, h2⟩ := List.mem_map.mp hy
          rw [List.mem_range] at h1
          obtain ⟨a, h3, h4⟩ := hn v (by omega)
          have := hm a (List.mem_of_getElem? h3)
          have h2' : ns.getD (r v) 0 = y := h2
          omega
      rw [List.length_cons, List.length_map, List.length_range] at this
      omega
  intro i j a x y h1 h2 h3 h4
  obtain ⟨v, v1, v2⟩ := cov x (List.mem_of_getElem? h3)
  obtain ⟨u, u1, u2⟩ := cov y (List.mem_of_getElem? h4)
  have e1 := ref i (r v) x a v h3 v2 h1 (hr v v1)
  have e2 := ref j (r u) y a u h4 u2 h2 (hr u u1)
  have : v = u := by omega
  subst this
  rw [v2] at u2
  exact Option.some.inj u2
abbrev beh (ns : List Nat) (row : MRow) : List Int := row.map fun e => ((ns.getD e.2.toNat 0 : Nat) : Int)
structure MacOk (mac : List MRow) : Prop where
  pos : 0 < mac.length
  few : mac.length ≤ 256
  rows : ∀ row ∈ mac, row.length ≤ 8
  ends : ∀ row ∈ mac, ∀ e ∈ row, ∃ j : Nat, e.2 = (j : Int) ∧ j < mac.length
structure KOk (mac : List MRow) (ns : List Nat) : Prop where
  len : ns.length = mac.length
  rg : RG ns
  bits : ∀ (i j a : Nat) r s, ns[i]? = some a → ns[j]? = some a → mac[i]? = some r → mac[j]? = some s → r.map (·.1) = s.map (·.1)
  next : ∀ (i j a : Nat) r s, ns[i]? = some a → ns[j]? = some a → mac[i]? = some r → mac[j]? = some s → beh ns r = beh ns s
structure KInv (mac : List MRow) (ns : List Nat) (many : Nat) : Prop where
  len : ns.length = mac.length
  rg : RG ns
  bits : ∀ (i j a : Nat) r s, ns[i]? = some a → ns[j]? = some a → mac[i]? = some r → mac[j]? = some s → r.map (·.1) = s.map (·.1)
  prev : many = 0 ∨ ∃ (ps : List Nat) (M : Nat), ps.length = mac.length ∧ RG ps ∧ M ∈ ps ∧ many = M + 1 ∧ Finer ns ps ∧ ∀ (i j a : Nat) r s, ns[i]? = some a → ns[j]? = some a → mac[i]? = some r → mac[j]? = some s → beh ps r = beh ps s
theorem rg_le {ns : List Nat} (rg : RG ns) : ∀ (v i : Nat), ns[i]? = some v → v ≤ i
  | 0, _, _ => Nat.zero_le _
  | v + 1, i, e => by
    obtain ⟨j, h1, h2⟩ := rg i v e
    have := rg_le rg v j h2
    omega
theorem KInv.done {mac : List MRow} {ns : List Nat} {many m : Nat} (h : KInv mac ns many) (ok : MacOk mac) (hm : ∀ x ∈ ns, x ≤ m) (hle : m + 1 ≤ many) : KOk mac ns := by
  refine ⟨h.len, h.rg, h.bits, fun i j a r s h1 h2 h3 h4 => ?_⟩
  rcases h.prev with e | ⟨ps, M, lp, rgp, hM, rfl, fin, nx⟩
  · omega
  have co := coarse (lp.trans h.len.symm) rgp hM hm (by omega) fin
  have e1 := nx i j a r s h1 h2 h3 h4
  apply List.ext_getElem?
  intro t
  have lr := congrArg List.length (h.bits i j a r s h1 h2 h3 h4)
  rw [List.length_map, List.length_map] at lr
  have e2 := congrArg (fun l : List Int => l[t]?) e1
  rw [List.getElem?_map, List.getElem?_map]
  by_cases ht : t < r.length
  · have ht2 : t < s.length := by omega
    have e3 : (beh ps r)[t]? = (beh ps s)[t]? := e2
    rw [List.getElem?_map, List.getElem?_map, List.getElem?_eq_getElem ht, List.getElem?_eq_getElem ht2] at e3
    rw [List.getElem?_eq_getElem ht, List.getElem?_eq_getElem ht2]
    obtain ⟨x, hx, lx⟩ := ok.ends r (List.mem_of_getElem? h3) r[t] (List.getElem_mem ht)
    obtain ⟨y, hy, ly⟩ := ok.ends s (List.mem_of_getElem? h4) s[t] (List.getElem_mem ht2)
    have e4 : ((ps.getD r[t].2.toNat 0 : Nat) : Int) = ((ps.getD s[t].2.toNat 0 : Nat) : Int) := Option.some.inj e3
    show some ((ns.getD r[t].2.toNat 0 : Nat) : Int) = some ((ns.getD s[t].2.toNat 0 : Nat) : Int)
    rw [hx, hy, Int.toNat_natCast, Int.toNat_natCast] at e4 ⊢
    have hl := h.len
    have px : ps[x]? = some ps[x] := List.getElem?_eq_getElem (by omega)
    have py : ps[y]? = some ps[y] := List.getElem?_eq_getElem (by omega)
    have nx : ns[x]? = some ns[x] := List.getElem?_eq_getElem (by omega)
    have ny : ns[y]? = some ns[y] := List.getElem?_eq_getElem (by omega)
    rw [List.getD_eq_getElem?_getD, List.getD_eq_getElem?_getD, px, py] at e4
    rw [List.getD_eq_getElem?_getD, List.getD_eq_getElem?_getD, nx, ny]
    have e6 : ((ps[x] : Nat) : Int) = ((ps[y] : Nat) : Int) := by simpa using e4
    have e5 : ps[x] = ps[y] := by omega
    have := co x y _ _ _ px (e5 ▸ py) nx ny
    simp [this]
  · rw [List.getElem?_eq_none (by omega), List.getElem?_eq_none (by omega)]
theorem KInv.first {mac : List MRow} {ns : List Nat} (h : NumOf (mac.map fun row => kC (row.map (·.1))) ns) : KInv mac ns 0 := by
  refine ⟨by rw [h.len, List.length_map], h.rg, fun i j a r s h1 h2 h3 h4 => ?_, .inl rfl⟩
  exact kC_inj (h.inj i j a _ _ h1 h2 (by rw [List.getElem?_map, h3]; rfl) (by rw [List.getElem?_map, h4]; rfl))
def kZ (n : Nat) (c : List Int) : NestedKey := .tup [.num (n : Int), kC c]
theorem kZ_inj {n n' : Nat} {c c' : List Int} (h : kZ n c = kZ n' c') : n = n' ∧ c = c' := by
  unfold kZ at h
  have h1 := NestedKey.tup.inj h
  rw [List.cons.injEq, List.cons.injEq] at h1
  have h2 := NestedKey.num.inj h1.1
  exact ⟨by omega, kC_inj h1.2.1⟩
theorem kZ_depth (n : Nat) (c : List Int) : (kZ n c).depth ≤ 8 := by
  unfold kZ kC
  simp [NestedKey.depth, NestedKey.depthAll, nums_depth c]
theorem keyZ {H : Hp} {t b : Addr} {n : Nat} {c : List Int} (h1 : H t = some (.tup [.int (n : Int), .ref b])) (h2 : H b = some (.tup (c.map V.int))) : KeyN H (.ref t) (kZ n c) :=
  ⟨.tup h1 (.cons (.num _) (.cons (.tup h2 (nks_ints H c)) .nil)), kZ_depth n c, t, rfl⟩
theorem KInv.step {mac : List MRow} {ns ns' : List Nat} {many m : Nat} (h : KInv mac ns many) (hm : m ∈ ns) (hn : NumOf ((ns.zip mac).map fun e => kZ e.1 (beh ns e.2)) ns') : KInv mac ns' (m + 1) := by
  have zl : (ns.zip mac).length = mac.length := by rw [List.length_zip, h.len, Nat.min_self]
  have key : ∀ (i j a x y : Nat) r s, ns'[i]? = some a → ns'[j]? = some a → ns[i]? = some x → ns[j]? = some y → mac[i]? = some r → mac[j]? = some s → x = y ∧ beh ns r = beh ns s := fun i j a x y r s h1 h2 h3 h4 h5 h6 => by
    have z1 : (ns.zip mac)[i]? = some (x, r) := List.getElem?_zip_eq_some.mpr ⟨h3, h5⟩
    have z2 : (ns.zip mac)[j]? = some (y, s) := List.getElem?_zip_eq_some.mpr ⟨h4, h6⟩
    exact kZ_inj (hn.inj i j a _ _ h1 h2 (by rw [List.getElem?_map, z1]; rfl) (by rw [List.getElem?_map, z2]; rfl))
  have at_ : ∀ (i : Nat) r, mac[i]? = some r → ∃ x : Nat, ns[i]? = some x := fun i r e => by
    have := (List.getElem?_eq_some_iff.mp e).1
    have hl := h.len
    exact ⟨_, List.getElem?_eq_getElem (by omega)⟩
  refine ⟨by rw [hn.len, List.length_map, zl], hn.rg, fun i j a r s h1 h2 h3 h4 => ?_, .inr ⟨ns, m, h.len, h.rg, hm, rfl, fun i j a x y h1 h2 h3 h4 => ?_, fun i j a r s h1 h2 h3 h4 => ?_⟩⟩
  · obtain ⟨x, hx⟩ := at_ i r h3
    obtain ⟨y, hy⟩ := at_ j s h4
    obtain ⟨rfl, _⟩ := key i j a x y r s h1 h2 hx hy h3 h4
    exact h.bits i j x r s hx hy h3 h4
  · have l1 := (List.getElem?_eq_some_iff.mp h3).1
    have l2 := (List.getElem?_eq_some_iff.mp h4).1
    have hl := h.len
    exact (key i j a x y _ _ h1 h2 h3 h4 (List.getElem?_eq_getElem (by omega)) (List.getElem?_eq_getElem (by omega))).1
  · obtain ⟨x, hx⟩ := at_ i r h3
    obtain ⟨y, hy⟩ := at_ j s h4
    exact (key i j a x y r s h1 h2 hx hy h3 h4).2
def spKi : Sp := fun vs H Q _ => ∃ (p : Addr) (ls : List Addr) (mac : List MRow), vs = [.ref p] ∧ H p = some (.lst (ls.map V.ref)) ∧ MacL H ls mac ∧ MacOk mac ∧
  ∀ H' q ns, Same H H' → H q = none → H' q = some (.lst ((zs ns).map V.int)) → KOk mac ns → Q (.ref q) H'
def KSt (H : Hp) (p : Addr) (mac : List MRow) (n : Nat) (σ : L2.St) (H4 : Hp) : Prop := ∃ y3 y4 y5 y6 Kd ns many, σ = [some (.ref p), some (.ref Kd), some (.int ((many : Nat) : Int)), y3, y4, y5, y6] ∧ H4 Kd = some (.lst ((zs ns).map V.int)) ∧ KInv mac ns many ∧ Same H H4 ∧ H Kd = none ∧ n = 300 - many
theorem mem_zs {ns : List Nat} {m : Int} (h : m ∈ zs ns) : ∃ k : Nat, k ∈ ns ∧ m = (k : Int) := by
  obtain ⟨k, h1, h2⟩ := List.mem_map.mp h
  exact ⟨k, h1, h2.symm⟩
theorem macl_same {H H' : Hp} (s : Same H H') {ls : List Addr} {mac : List MRow} (h : MacL H ls mac) : MacL H' ls mac := macl_stay (Same.tups s) (fun l _ xs e => s _ _ e) h
abbrev TupsAt (H : Hp) : List Addr → List (List Int) → Prop := Paired fun b c => H b = some (.tup (c.map V.int))
abbrev rTupOf (K : PySem.W.Frag) : List V → Hp → VK → Prop := fun xs H Q => ∃ p ys, xs = [.ref p] ∧ ((SqL K H p ys ∧ ∀ l, H l = none → Q (.ref l) (upd H l (.tup ys))) ∨ (SqT K H p ys ∧ Q (.ref p) H))
abbrev scKa : Scope := ⟨.function, [(".0", .local), ("state", .local), ("tuple", .globalImplicit)], false, false, []⟩
abbrev scKb : Scope := ⟨.function, [(".0", .local), ("state", .local), ("tuple", .globalImplicit), ("kinds", .cell)], false, false, []⟩
abbrev scKc : Scope := ⟨.function, [(".0", .local), ("bit", .local), ("after", .local), ("kinds", .free)], false, false, []⟩
theorem ok_ki {f fN : Addr} {fd fdN : FuncData} {k : Nat} (F : Fun K "kinds_of_states" "kinds_of_states" s_kinds_of_states f fd)
    (GN : FnOk P w K mg base CX0 (k + 1) fN fdN ["looks"] spNu) (kN : PySem.W.keepIn K (.ref fN) = true) (bN : Binds K fdN ["looks"] []) (gN : mg "numbered" = some (.ref fN))
    (mx : mg "max" = none) (mt : mg "tuple" = none) (ml : mg "list" = none) (mz : mg "zip" = none) : FnOk P w K mg base CX0 (k + 2) f fd ["machine"] spKi := by
  refine F.ok sc_kinds_of_states (fun vs H Q E h => ?_) (fun cdv A outer s H vs Q E hr h => ?_)
  · obtain ⟨p, ls, mac, rfl, _⟩ := h
    rfl
  · obtain ⟨p, ls, mac, rfl, ep, hmac, ok, q⟩ := h
    refine ⟨_, pss_cons (ps_set (i := 1) sc_kinds_of_states.nd rfl (.inr rfl) (pe_call GN hr (by rfl) gN kN bN .nil pass0 (pa_cons
        (pe_lc (own := [("state", 6)]) (g := gName 6) (by rfl) sc_kinds_of_states.nd (pi_list (pv 0)) (blkOk_by (own := [("state", 6)]) (N := N_kinds_of_states) (sc := defScope s_kinds_of_states) (by decide +kernel))
          (fun _ _ _ _ _ => pg_name (i := 6) sc_kinds_of_states.nd rfl (Or.inl rfl)) (fun _ _ _ _ _ => pts_nil)
          (fun _ _ _ _ _ => pe_callTy (T := "tuple") (r := rTupOf K) call_tuple_of (by rfl) mt (by decide +kernel) (pa_cons
            (pe_lc (wi := iList K (tVar 6)) (own := [("bit", 4), ("after", 5)]) (g := gTup K 2 (gCons (gName 4) (gCons (gName 5) gNil))) (by rfl) sc_kinds_of_states.nd (pi_list (pv 6)) (blkOk_by (own := [("bit", 4), ("after", 5)]) (N := N_kinds_of_states) (sc := scKa) (by decide +kernel))
              (fun _ _ _ _ _ => pg_tup rfl (pgs_cons (pg_name (i := 4) sc_kinds_of_states.nd rfl (.inl rfl)) (pgs_cons (pg_name (i := 5) sc_kinds_of_states.nd rfl (.inl rfl)) pgs_nil))) (fun _ _ _ _ _ => pts_nil)
              (fun _ _ _ _ _ => pv 4)) pa_nil))) pa_nil)))
      (pss_cons (ps_set (i := 2) sc_kinds_of_states.nd rfl (.inl rfl) pe_int)
      (pss_cons (ps_while PassesOwn.never (pt_cmpR op_lt (pv 2) (pe_op op_add (pe_callB (cr_max rfl) (by rfl) mx (by decide +kernel) (pa_cons (pv 1) pa_nil)) pe_int) (nomark _))
        (pss_cons (ps_set (i := 2) sc_kinds_of_states.nd rfl (.inl rfl) (pe_op op_add (pe_callB (cr_max rfl) (by rfl) mx (by decide +kernel) (pa_cons (pv 1) pa_nil)) pe_int))
        (pss_cons (ps_setLc (i := 3) (own := [("state", 6)]) (g := gName 6) (by rfl) sc_kinds_of_states.nd rfl rfl (sw_true rfl rfl rfl (by decide +kernel)) (pi_list (pv 0)) (blkOk_by (own := [("state", 6)]) (N := N_kinds_of_states) (sc := defScope s_kinds_of_states) (by decide +kernel))
          (fun _ _ _ _ _ => pg_name (i := 6) sc_kinds_of_states.nd rfl (Or.inl rfl)) (fun _ _ _ _ _ => pts_nil)
          (fun _ _ _ _ _ => pe_callTy (T := "tuple") (r := rTupOf K) call_tuple_of (by rfl) mt (by decide +kernel) (pa_cons
            (pe_lc (wi := iList K (tVar 6)) (own := [("bit", 4), ("after", 5)]) (g := gTup K 2 (gCons (gName 4) (gCons (gName 5) gNil))) (by rfl) sc_kinds_of_states.nd (pi_list (pv 6)) (by exact blkOk_by (own := [("bit", 4), ("after", 5)]) (N := N_kinds_of_states) (sc := scKb) (scope := scKc) (by decide +kernel))
              (fun _ _ _ _ _ => pg_tup rfl (pgs_cons (pg_name (i := 4) sc_kinds_of_states.nd rfl (.inl rfl)) (pgs_cons (pg_name (i := 5) sc_kinds_of_states.nd rfl (.inl rfl)) pgs_nil))) (fun _ _ _ _ _ => pts_nil)
              (fun _ _ _ _ _ => pe_ix (r := rIxL K) ix_list (pv 1) (pv 5) (fun _ _ => rfl))) pa_nil)))
        (pss_one (ps_set (i := 1) sc_kinds_of_states.nd rfl (.inr rfl) (pe_call GN hr (by rfl) gN kN bN .nil pass0 (pa_cons (pe_listZip (by rfl) (by rfl) ml (by rfl) mz (pa_cons (pv 1) (pa_cons (pv 3) pa_nil))) pa_nil)))))))
      (pss_one (ps_ret (pv 1))))), ?_⟩
    have lml := awLen hmac
    have few := ok.few
    -- the bits of the states
    refine ⟨.ref p, rfl, p, rfl, ⟨_, .inl (.inl ep)⟩, fun D hD => ?_⟩
    refine lc_it (walk_list (K := K) (a := p) (xs := ls.map V.ref)) (fun i H4 => ∃ bs, H4 D = some (.lst (bs.map V.ref)) ∧ TupsAt H4 bs ((mac.map fun row => row.map (·.1)).take i) ∧ Same H H4) ⟨[], upd_same, .nil, same_new hD⟩ (fun i H4 _ hp => ?_) (fun i x H4 H5 hi hp hy => ?_) (fun H4 hp => ?_)
    · obtain ⟨_, _, _, s4⟩ := hp
      exact .inl (.inl (s4 _ _ ep))
    · obtain ⟨bs, eD, hb, s4⟩ := hp
      obtain ⟨rfl, hx⟩ := hy
      have hi2 : i < ls.length := by rwa [List.length_map] at hi
      have hx' : x = .ref ls[i] := by
        rw [List.getElem?_map, List.getElem?_eq_getElem hi2] at hx
        exact (Option.some.inj hx).symm
      subst hx'
      obtain ⟨row, hr1, hr2⟩ := awGet hmac (List.getElem?_eq_getElem hi2)
      obtain ⟨qs, eq, hq⟩ := hr2
      have rm := List.mem_of_getElem? hr1
      have r8 := ok.rows row rm
      have ql := awLen hq
      have bl := awLen hb
      rw [List.length_take] at bl
      refine ⟨rfl, .ref ls[i], rfl, ls[i], rfl, ⟨_, .inl (.inl (s4 _ _ eq))⟩, fun G hG => ?_⟩
      refine lc_it (walk_list (K := K) (a := ls[i]) (xs := qs.map V.ref)) (fun t H6 => H6 G = some (.lst (((row.take t).map (·.1)).map V.int)) ∧ Same H5 H6) ⟨upd_same, same_new hG⟩ (fun t H6 _ hp => .inl (.inl (hp.2 _ _ (s4 _ _ eq)))) (fun t x H6 H7 ht hp hy => ?_) (fun H6 hp => ?_)
      · obtain ⟨eG, s6⟩ := hp
        obtain ⟨rfl, hx⟩ := hy
        have ht2 : t < qs.length := by rwa [List.length_map] at ht
        have hx' : x = .ref qs[t] := by
          rw [List.getElem?_map, List.getElem?_eq_getElem ht2] at hx
          exact (Option.some.inj hx).symm
        subst hx'
        obtain ⟨e, he1, he2⟩ := awGet hq (List.getElem?_eq_getElem ht2)
        have gl : ((row.take t).map (·.1)).length < sizeLine := by
          rw [List.length_map, List.length_take]
          exact small1000 (by omega)
        refine ⟨qs[t], [.int e.1, .int e.2], rfl, .inl (.inl (s6 _ _ (s4 _ _ he2))), rfl, .int e.1, [.int e.2], rfl, .int e.2, [], rfl, rfl, rfl, .int e.1, rfl, _, eG, ?_, ?_, fun b u z => ?_⟩
        · rw [List.length_map]
          exact gl
        · rw [upd_same, List.take_add_one, he1]
          simp
        · rw [upd_ne (ne_of_none z hG)]
          exact s6 b u z
      · obtain ⟨eG, s6⟩ := hp
        rw [List.length_map, ql, List.take_length] at eG
        refine ⟨G, _, rfl, .inl ⟨.inl (.inl eG), fun T hT => ?_⟩⟩
        have sT := same_new (o := .tup ((row.map (·.1)).map V.int)) hT
        have eD2 := (s6.trans sT) _ _ eD
        have tp := tups_put (o := .lst (bs.map V.ref ++ [V.ref T])) eD2
        refine ⟨_, eD2, ?_, bs ++ [T], ?_, ?_, fun b u z => ?_⟩
        · rw [List.length_map]
          exact small1000 (by omega)
        · rw [upd_same, List.map_append]
          rfl
        · rw [List.take_add_one, List.getElem?_map, hr1]
          exact awMap (fun b c z => tp _ _ z) (awSnoc (F := fun (b : Addr) (c : List Int) => (upd H6 T (.tup ((row.map (·.1)).map V.int))) b = some (.tup (c.map V.int))) upd_same (awMap (fun b c z => sT _ _ (s6 _ _ z)) hb))
        · rw [upd_ne (ne_of_none z hD)]
          exact sT _ _ (s6 _ _ (s4 b u z))
    · obtain ⟨bs, eD, hb, s4⟩ := hp
      have hb' : TupsAt H4 bs (mac.map fun row => row.map (·.1)) := by
        rw [List.length_map, lml, ← List.length_map (as := mac) (f := fun row => row.map (·.1)), List.take_length] at hb
        exact hb
      have bl : bs.length = mac.length := by rw [awLen hb', List.length_map]
      have hks : KeysAt H4 bs (mac.map fun row => kC (row.map (·.1))) := paired_of (by rw [bl, List.length_map]) fun j b key h1 h2 => by
        obtain ⟨c, h3, h4⟩ := awGet hb' h1
        rw [List.getElem?_map] at h2 h3
        cases hj : mac[j]? with
        | none => rw [hj] at h2; cases h2
        | some row =>
          rw [hj] at h2 h3
          rw [← Option.some.inj h2]
          rw [← Option.some.inj h3] at h4
          exact keyC h4
      refine ⟨D, bs, _, rfl, eD, hks, by omega, fun H5 Kd ns s5 nK eK hn => ?_⟩
      have nK0 := s4.free nK
      refine ⟨KSt H p mac, ⟨_, none, none, none, none, Kd, ns, 0, rfl, eK, KInv.first hn, s4.trans s5, nK0, rfl⟩, fun n σ H6 hp => ?_⟩
      obtain ⟨y3, y4, y5, y6, Kd, ns, many, rfl, eK, ki, s6, nK0, rfl⟩ := hp
      have nl : 0 < ns.length := by
        rw [ki.len]
        exact ok.pos
      refine ⟨.int many, rfl, .ref Kd, rfl, Kd, zs ns, rfl, .inl (.inl eK), by rwa [List.length_map], fun mI hmI hxI => ?_⟩
      obtain ⟨m, hm, rfl⟩ := mem_zs hmI
      have hx : ∀ x ∈ ns, x ≤ m := fun x hx => by
        have := hxI (x : Int) (List.mem_map.mpr ⟨x, hx, rfl⟩)
        omega
      have m256 : m < 256 := by
        obtain ⟨i, hi⟩ := List.mem_iff_getElem?.mp hm
        have h1 := rg_le ki.rg m i hi
        have h2 := (List.getElem?_eq_some_iff.mp hi).1
        have h3 := ki.len
        omega
      refine ⟨_, _, rfl, rfl, _, _, rfl, rfl, _, rfl, ite2 (fun e => ?_) (fun e => ?_)⟩
      · have lt : many < m + 1 := by
          have := of_decide_eq_true e
          omega
        refine ⟨fun σ' H' => ∃ m', m' < 300 - many ∧ KSt H p mac m' σ' H', fun σ' H' z => z, ?_⟩
        refine ⟨.ref Kd, rfl, Kd, zs ns, rfl, .inl (.inl eK), by rwa [List.length_map], fun mJ hmJ hxJ => ?_⟩
        obtain rfl : mJ = (m : Int) := by
          have h1 := hxI mJ hmJ
          have h2 := hxJ _ hmI
          omega
        refine ⟨_, _, rfl, rfl, ?_⟩
        refine ⟨.ref p, rfl, p, rfl, ⟨_, .inl (.inl (s6 _ _ ep))⟩, fun D hD => ?_⟩
        have hmac' := macl_same s6 hmac
        refine lc_it (walk_list (K := K) (a := p) (xs := ls.map V.ref)) (fun i H7 => ∃ bs, H7 D = some (.lst (bs.map V.ref)) ∧ TupsAt H7 bs ((mac.map (beh ns)).take i) ∧ Same H6 H7) ⟨[], upd_same, .nil, same_new hD⟩ (fun i H7 _ hp => ?_) (fun i x H7 H8 hi hp hy => ?_) (fun H7 hp => ?_)
        · obtain ⟨_, _, _, s7⟩ := hp
          exact .inl (.inl (s7 _ _ (s6 _ _ ep)))
        · obtain ⟨bs, eD, hb, s7⟩ := hp
          obtain ⟨rfl, hx⟩ := hy
          have hi2 : i < ls.length := by rwa [List.length_map] at hi
          have hx' : x = .ref ls[i] := by
            rw [List.getElem?_map, List.getElem?_eq_getElem hi2] at hx
            exact (Option.some.inj hx).symm
          subst hx'
          obtain ⟨row, hr1, hr2⟩ := awGet hmac' (List.getElem?_eq_getElem hi2)
          obtain ⟨qs, eq, hq⟩ := hr2
          have rm := List.mem_of_getElem? hr1
          have r8 := ok.rows row rm
          have ql := awLen hq
          have bl := awLen hb
          rw [List.length_take] at bl
          refine ⟨rfl, .ref ls[i], rfl, ls[i], rfl, ⟨_, .inl (.inl (s7 _ _ eq))⟩, fun G hG => ?_⟩
          refine lc_it (walk_list (K := K) (a := ls[i]) (xs := qs.map V.ref)) (fun t H9 => H9 G = some (.lst ((beh ns (row.take t)).map V.int)) ∧ Same H8 H9) ⟨upd_same, same_new hG⟩ (fun t H9 _ hp => .inl (.inl (hp.2 _ _ (s7 _ _ eq)))) (fun t x H9 H10 ht hp hy => ?_) (fun H9 hp => ?_)
          · obtain ⟨eG, s9⟩ := hp
            obtain ⟨rfl, hx⟩ := hy
            have ht2 : t < qs.length := by rwa [List.length_map] at ht
            have hx' : x = .ref qs[t] := by
              rw [List.getElem?_map, List.getElem?_eq_getElem ht2] at hx
              exact (Option.some.inj hx).symm
            subst hx'
            obtain ⟨e, he1, he2⟩ := awGet hq (List.getElem?_eq_getElem ht2)
            obtain ⟨j, hj1, hj2⟩ := ok.ends row rm e (List.mem_of_getElem? he1)
            have jn : j < ns.length := by
              rw [ki.len]
              exact hj2
            have gd : ns.getD e.2.toNat 0 = ns[j] := by
              rw [hj1, Int.toNat_natCast]
              simp [List.getD, List.getElem?_eq_getElem jn]
            refine ⟨qs[t], [.int e.1, .int e.2], rfl, .inl (.inl (s9 _ _ (s7 _ _ he2))), rfl, .int e.1, [.int e.2], rfl, .int e.2, [], rfl, rfl, rfl, .ref Kd, rfl, .int e.2, rfl, Kd, _, e.2, .int ((ns[j] : Nat) : Int), rfl, rfl, .inl (.inl (s9 _ _ (s7 _ _ eK))), ?_, _, eG, ?_, ?_, fun b u z => ?_⟩
            · rw [hj1]
              exact atI_nat (by rw [List.getElem?_map, List.getElem?_map, List.getElem?_eq_getElem jn]; rfl)
            · rw [List.length_map, List.length_map, List.length_take]
              exact small1000 (by omega)
            · rw [upd_same, List.take_add_one, he1]
              simp [beh, ← gd]
            · rw [upd_ne (ne_of_none z hG)]
              exact s9 b u z
          · obtain ⟨eG, s9⟩ := hp
            rw [List.length_map, ql, List.take_length] at eG
            refine ⟨G, _, rfl, .inl ⟨.inl (.inl eG), fun T hT => ?_⟩⟩
            have sT := same_new (o := .tup ((beh ns row).map V.int)) hT
            have eD2 := (s9.trans sT) _ _ eD
            have tp := tups_put (o := .lst (bs.map V.ref ++ [V.ref T])) eD2
            refine ⟨_, eD2, ?_, bs ++ [T], ?_, ?_, fun b u z => ?_⟩
            · rw [List.length_map]
              exact small1000 (by omega)
            · rw [upd_same, List.map_append]
              rfl
            · rw [List.take_add_one, List.getElem?_map, hr1]
              exact awMap (fun b c z => tp _ _ z) (awSnoc (F := fun (b : Addr) (c : List Int) => (upd H9 T (.tup ((beh ns row).map V.int))) b = some (.tup (c.map V.int))) upd_same (awMap (fun b c z => sT _ _ (s9 _ _ z)) hb))
            · rw [upd_ne (ne_of_none z hD)]
              exact sT _ _ (s9 _ _ (s7 b u z))
        · obtain ⟨bs, eD, hb, s7⟩ := hp
          have hb' : TupsAt H7 bs (mac.map (beh ns)) := by
            rw [List.length_map, lml, ← List.length_map (as := mac) (f := beh ns), List.take_length] at hb
            exact hb
          have bl : bs.length = mac.length := by rw [awLen hb', List.length_map]
          have kl := ki.len
          refine ⟨.ref Kd, rfl, .ref D, rfl, Kd, D, _, _, rfl, .inl (.inl (s7 _ _ eK)), .inl (.inl eD), by rw [List.length_map, List.length_map, List.length_map]; omega, fun H8 Z ts s8 nZ eZ hz => ?_⟩
          have tl : ts.length = mac.length := by
            rw [awLen hz, List.length_zip, List.length_map, List.length_map, List.length_map]
            omega
          have hks : KeysAt H8 ts ((ns.zip mac).map fun e => kZ e.1 (beh ns e.2)) := paired_of (by rw [tl, List.length_map, List.length_zip]; omega) fun j t key h1 h2 => by
            obtain ⟨e, h3, h4⟩ := awGet hz h1
            rw [List.getElem?_map] at h2
            have hj : j < mac.length := by
              have := (List.getElem?_eq_some_iff.mp h1).1
              omega
            have n1 : ns[j]? = some ns[j] := List.getElem?_eq_getElem (by omega)
            have m1 : mac[j]? = some mac[j] := List.getElem?_eq_getElem hj
            have b1 : bs[j]? = some bs[j] := List.getElem?_eq_getElem (by omega)
            have z1 : (ns.zip mac)[j]? = some (ns[j], mac[j]) := List.getElem?_zip_eq_some.mpr ⟨n1, m1⟩
            rw [z1] at h2
            obtain rfl := Option.some.inj h2
            have z2 : (((zs ns).map V.int).zip (bs.map V.ref))[j]? = some (.int ((ns[j] : Nat) : Int), .ref bs[j]) := List.getElem?_zip_eq_some.mpr ⟨by rw [List.getElem?_map, List.getElem?_map, n1]; rfl, by rw [List.getElem?_map, b1]; rfl⟩
            rw [z2] at h3
            obtain rfl := Option.some.inj h3
            obtain ⟨c, h5, h6⟩ := awGet hb' b1
            rw [List.getElem?_map, m1] at h5
            obtain rfl := Option.some.inj h5
            exact keyZ h4 (s8 _ _ h6)
          refine ⟨Z, ts, _, rfl, eZ, hks, by omega, fun H9 Kd2 ns2 s9 nK2 eK2 hn2 => ?_⟩
          have s69 := (s7.trans s8).trans s9
          exact ⟨300 - (m + 1), by omega, some (.ref D), y4, y5, y6, Kd2, ns2, m + 1, rfl, eK2, ki.step hm hn2, s6.trans s69, (s6.trans (s7.trans s8)).free nK2, rfl⟩
      · have ge : m + 1 ≤ many := by
          have : ¬ ((many : Int) < (m : Int) + 1) := fun z => e (decide_eq_true z)
          omega
        exact ⟨.ref Kd, rfl, q H6 Kd ns s6 nK0 eK (ki.done ok hx ge)⟩
/-! ### least_machine -/
abbrev low (ns : List Nat) (row : MRow) : MRow := row.map fun e => (e.1, ((ns.getD e.2.toNat 0 : Nat) : Int))
theorem low_eq {ns : List Nat} : ∀ {r s : MRow}, r.map (·.1) = s.map (·.1) → beh ns r = beh ns s → low ns r = low ns s
  | [], [], _, _ => rfl
  | [], _ :: _, h, _ => nomatch h
  | _ :: _, [], h, _ => nomatch h
  | x :: r, y :: s, h1, h2 => by
    simp only [beh, List.map_cons, List.cons.injEq] at h1 h2
    simp only [low, List.map_cons, List.cons.injEq]
    exact ⟨Prod.ext h1.1 h2.1, low_eq h1.2 h2.2⟩
/-- a machine walks along with the carries of a row -/
def Sim (m : Nat) (ds : List Deed) (o : Int) (lm : List MRow) (S : List Int → Nat → Prop) : Prop :=
  S (ds.map fcD) 0 ∧ ∀ c k, S c k → ∃ row, lm[k]? = some row ∧ Paired (fun (e : Int × Int) (s : Int × List Int) => e.1 = s.1 ∧ ∃ j : Nat, e.2 = (j : Int) ∧ S s.2 j) row (stp m ds o c)
structure LInv (mac : List MRow) (ns : List Nat) (lm : List MRow) (i : Nat) : Prop where
  each : ∀ (k : Nat) row, lm[k]? = some row → ∃ (i0 : Nat) (r : MRow), ns[i0]? = some k ∧ mac[i0]? = some r ∧ row = low ns r
  all : ∀ j k : Nat, j < i → ns[j]? = some k → k < lm.length
  len : lm.length ≤ i
theorem LInv.new {mac lm : List MRow} {ns : List Nat} {i : Nat} {r : MRow} (h : LInv mac ns lm i) (hk : ns[i]? = some lm.length) (hr : mac[i]? = some r) : LInv mac ns (lm ++ [low ns r]) (i + 1) := by
  refine ⟨fun k row e => ?_, fun j k hj e => ?_, by rw [List.length_append]; exact Nat.succ_le_succ h.len⟩
  · by_cases hl : k < lm.length
    · rw [List.getElem?_append_left hl] at e
      exact h.each k row e
    · rw [List.getElem?_append_right (by omega)] at e
      have h2 := (List.getElem?_eq_some_iff.mp e).1
      simp only [List.length_cons, List.length_nil] at h2
      have ek : k = lm.length := by omega
      subst ek
      rw [Nat.sub_self] at e
      exact ⟨i, r, hk, hr, (Option.some.inj e).symm⟩
  · rw [List.length_append]
    show k < lm.length + 1
    by_cases hji : j = i
    · subst hji
      rw [hk] at e
      have := Option.some.inj e
      omega
    · have := h.all j k (by omega) e
      omega
theorem LInv.old {mac lm : List MRow} {ns : List Nat} {i k : Nat} (h : LInv mac ns lm i) (rg : RG ns) (hk : ns[i]? = some k) (hn : k ≠ lm.length) : LInv mac ns lm (i + 1) := by
  refine ⟨h.each, fun j k' hj e => ?_, Nat.le_succ_of_le h.len⟩
  by_cases hji : j = i
  · subst hji
    rw [hk] at e
    obtain rfl := Option.some.inj e
    cases k with
    | zero => omega
    | succ v =>
      obtain ⟨j', h1, h2⟩ := rg j v hk
      have := h.all j' v h1 h2
      omega
  · exact h.all j k' (by omega) e
theorem LInv.sim {mac lm : List MRow} {ns : List Nat} {m : Nat} {ds : List Deed} {o : Int} {cs : List (List Int)} (h : LInv mac ns lm ns.length) (kk : KOk mac ns) (wm : WM m ds o cs mac) (hl : mac.length = cs.length) (pos : 0 < mac.length) :
    Sim m ds o lm fun c k => ∃ i : Nat, cs[i]? = some c ∧ ns[i]? = some k := by
  have nl := kk.len
  refine ⟨⟨0, wm.first, ?_⟩, fun c k => ?_⟩
  · have h0 : ns[0]? = some ns[0] := List.getElem?_eq_getElem (by omega)
    have := rg_le kk.rg _ _ h0
    rw [h0]
    congr 1
    omega
  · rintro ⟨i, h1, h2⟩
    have il := (List.getElem?_eq_some_iff.mp h2).1
    have kl := h.all i k il h2
    obtain ⟨i0, r0, a1, a2, a3⟩ := h.each k lm[k] (List.getElem?_eq_getElem kl)
    have hr : mac[i]? = some mac[i] := List.getElem?_eq_getElem (by omega)
    obtain ⟨c', b1, b2⟩ := wm.each i _ hr
    rw [h1] at b1
    obtain rfl := Option.some.inj b1
    have e1 := kk.bits i0 i k r0 _ a1 h2 a2 hr
    have e2 := kk.next i0 i k r0 _ a1 h2 a2 hr
    refine ⟨_, List.getElem?_eq_getElem kl, ?_⟩
    rw [a3, low_eq e1 e2]
    refine paired_of (by rw [List.length_map, awLen b2]) fun t e s g1 g2 => ?_
    rw [List.getElem?_map] at g1
    cases hx : (mac[i]'(by omega))[t]? with
    | none => rw [hx] at g1; cases g1
    | some x =>
      rw [hx] at g1
      obtain ⟨s', g3, g4, j, g5, g6⟩ := awGet b2 hx
      rw [g2] at g3
      obtain rfl := Option.some.inj g3
      obtain rfl := Option.some.inj g1
      have jl := (List.getElem?_eq_some_iff.mp g6).1
      have nj : ns[j]? = some ns[j] := List.getElem?_eq_getElem (by omega)
      refine ⟨g4, ns.getD x.2.toNat 0, rfl, j, g6, ?_⟩
      rw [g5, Int.toNat_natCast, List.getD_eq_getElem?_getD, nj]
      rfl
theorem wm_ok {m : Nat} {ds : List Deed} {o : Int} {cs : List (List Int)} {mac : List MRow} (wm : WM m ds o cs mac) (hl : mac.length = cs.length) (hm : m ≤ 3) (hn : ds.length ≤ 8) : MacOk mac := by
  have pos : 0 < cs.length := (List.getElem?_eq_some_iff.mp wm.first).1
  refine ⟨by omega, by rw [hl]; exact few_cs wm.nd wm.bits hn, fun row hr => ?_, fun row hr e he => ?_⟩
  · obtain ⟨i, hi⟩ := List.mem_iff_getElem?.mp hr
    obtain ⟨c, _, h2⟩ := wm.each i row hi
    rw [awLen h2, stp_len]
    exact Nat.le_trans (Nat.pow_le_pow_right (by decide) hm) (by decide)
  · obtain ⟨i, hi⟩ := List.mem_iff_getElem?.mp hr
    obtain ⟨c, _, h2⟩ := wm.each i row hi
    obtain ⟨t, ht⟩ := List.mem_iff_getElem?.mp he
    obtain ⟨s, _, _, j, h3, h4⟩ := awGet h2 ht
    exact ⟨j, h3, by rw [hl]; exact (List.getElem?_eq_some_iff.mp h4).1⟩
structure LmOk (m : Nat) (ds : List Deed) (o : Int) (lm : List MRow) : Prop where
  sim : ∃ S, Sim m ds o lm S
  few : lm.length ≤ 256
def spLm : Sp := fun vs H Q _ => ∃ (R : Addr) (m : Nat) (o : Int) (ds : List Deed), vs = [.ref R] ∧ RowAt H R m ds o ∧ RowOk m ds o ∧
  ∀ H' p ls lm, Same H H' → H p = none → H' p = some (.lst (ls.map V.ref)) → MacL H' ls lm → LmOk m ds o lm → Q (.ref p) H'
theorem ok_lm {f fW fK : Addr} {fd fdW fdK : FuncData} {k : Nat} (F : Fun K "least_machine" "least_machine" s_least_machine f fd)
    (GW : FnOk P w K mg base CX0 (k + 5) fW fdW ["row"] spWh) (kW : PySem.W.keepIn K (.ref fW) = true) (bW : Binds K fdW ["row"] []) (gW : mg "whole_machine" = some (.ref fW))
    (GK : FnOk P w K mg base CX0 (k + 2) fK fdK ["machine"] spKi) (kK : PySem.W.keepIn K (.ref fK) = true) (bK : Binds K fdK ["machine"] []) (gK : mg "kinds_of_states" = some (.ref fK))
    (mn : mg "len" = none) (mz : mg "zip" = none) : FnOk P w K mg base CX0 (k + 6) f fd ["row"] spLm := by
  refine F.ok sc_least_machine (fun vs H Q E h => ?_) (fun cdv A outer s H vs Q E hr h => ?_)
  · obtain ⟨R, m, o, ds, rfl, _⟩ := h
    rfl
  · obtain ⟨R, m, o, ds, rfl, hrow, hok, q⟩ := h
    have r2 := hr.mono (show k + 2 ≤ k + 5 by omega)
    refine ⟨_, pss_cons (ps_set (i := 1) sc_least_machine.nd rfl (.inl rfl) (pe_call GW hr (by rfl) gW kW bW .nil pass0 (pa_cons (pv 0) pa_nil)))
      (pss_cons (ps_set (i := 2) sc_least_machine.nd rfl (.inr rfl) (pe_call GK r2 (by rfl) gK kK bK .nil pass0 (pa_cons (pv 1) pa_nil)))
      (pss_cons (ps_set (i := 3) sc_least_machine.nd rfl (.inl rfl) (pe_lst pa_nil))
      (pss_cons (ps_for PassesOwn.never rfl (pi_zip (by rfl) mz (pa_cons (pv 2) (pa_cons (pv 1) pa_nil))) (pg_tup rfl (pgs_cons (pg_name (i := 4) sc_least_machine.nd rfl (.inl rfl)) (pgs_cons (pg_name (i := 5) sc_least_machine.nd rfl (.inl rfl)) pgs_nil)))
        (pss_one (ps_if (pt_cmpR op_eq (pv 4) (pe_callB call_len_seq (by rfl) mn PySem.boot_len (pa_cons (pv 3) pa_nil)) (nomark _))
          (pss_one (ps_expr (pe_bm PySem.F.plainAttrs_list PySem.F.slot_list_append PySem.F.type_list_append mt_append (pv 3) (pa_cons
            (pe_lc (own := [("bit", 6), ("after", 7)]) (g := gTup K 2 (gCons (gName 6) (gCons (gName 7) gNil))) (by rfl) sc_least_machine.nd (pi_list (pv 5)) (blkOk_by (own := [("bit", 6), ("after", 7)]) (N := N_least_machine) (sc := defScope s_least_machine) (by decide +kernel))
              (fun _ _ _ _ _ => pg_tup rfl (pgs_cons (pg_name (i := 6) sc_least_machine.nd rfl (.inl rfl)) (pgs_cons (pg_name (i := 7) sc_least_machine.nd rfl (.inl rfl)) pgs_nil))) (fun _ _ _ _ _ => pts_nil)
              (fun _ _ _ _ _ => pe_tup (pa_cons (pv 6) (pa_cons (pe_ix (r := rIxL K) ix_list (pv 2) (pv 7) (fun _ _ => rfl)) pa_nil)))) pa_nil)))) pss_nil)))
      (pss_one (ps_ret (pv 3)))))), ?_⟩
    refine ⟨.ref R, rfl, R, m, o, ds, rfl, hrow, hok, fun H1 p ls cs mac s1 np ep hmac wm hl => ?_⟩
    have ok := wm_ok wm hl (by have := hok.m3; omega) hok.len
    have few := ok.few
    have lml := awLen hmac
    refine ⟨.ref p, rfl, p, ls, mac, rfl, ep, hmac, ok, fun H2 Kd ns s2 nK eK kk => ?_⟩
    have nl := kk.len
    refine ⟨Nat.zero_le _, fun L hL => ?_⟩
    have sL := same_new (o := .lst []) hL
    have nLK : Kd ≠ L := ne_of_none eK hL
    have ep2 := s2 _ _ ep
    have npL : p ≠ L := ne_of_none ep2 hL
    have hmac2 := macl_same s2 hmac
    refine ⟨.ref Kd, rfl, .ref p, rfl, Kd, p, _, _, rfl, .inl (.inl (sL _ _ eK)), .inl (.inl (sL _ _ ep2)), for_it (walk_zip (K := K) (a := Kd) (b := p) (xs := (zs ns).map V.int) (ys := ls.map V.ref) (n := ns.length) (by rw [List.length_map, List.length_map, List.length_map]; omega)) (fun i σ H3 => ∃ y4 y5 y6 y7 ms lm, σ = [some (.ref R), some (.ref p), some (.ref Kd), some (.ref L), y4, y5, y6, y7] ∧ H3 L = some (.lst (ms.map V.ref)) ∧ MacL H3 ms lm ∧ LInv mac ns lm i ∧ (∀ l ∈ ms, l ≠ L) ∧ ∀ b u, H2 b = some u → H3 b = some u)
      ⟨none, none, none, none, [], [], rfl, upd_same, .nil, ⟨fun k row e => by simp at e, fun j k hj => absurd hj (Nat.not_lt_zero _), Nat.le_refl _⟩, (fun _ z => nomatch z), sL⟩ (fun i σ H3 _ hp => ?_) (fun i x σ H3 H4 hi hp hy => ?_) (fun σ H3 hp => ?_)⟩
    · obtain ⟨_, _, _, _, _, _, _, _, _, _, _, st⟩ := hp
      exact ⟨.inl (.inl (st _ _ eK)), .inl (.inl (st _ _ ep2))⟩
    · obtain ⟨y4, y5, y6, y7, ms, lm, rfl, eL, hms, li, nms, st⟩ := hp
      obtain ⟨U, x1, x2, rfl, hU, rfl, g1, g2⟩ := hy
      have hil : i < ls.length := by omega
      have e1 : x1 = .int ((ns[i] : Nat) : Int) := by
        have g1' : ((zs ns).map V.int)[i]? = some x1 := g1
        rw [List.getElem?_map, List.getElem?_map, List.getElem?_eq_getElem hi] at g1'
        exact (Option.some.inj g1').symm
      have e2 : x2 = .ref ls[i] := by
        have g2' : (ls.map V.ref)[i]? = some x2 := g2
        rw [List.getElem?_map, List.getElem?_eq_getElem hil] at g2'
        exact (Option.some.inj g2').symm
      subst e1 e2
      have sU := same_new (o := .tup [.int ((ns[i] : Nat) : Int), .ref ls[i]]) hU
      have eLU := sU _ _ eL
      have mll := awLen hms
      have lil := li.len
      refine ⟨U, [.int ((ns[i] : Nat) : Int), .ref ls[i]], rfl, .inl (.inl upd_same), rfl, .int ((ns[i] : Nat) : Int), [.ref ls[i]], rfl, .ref ls[i], [], rfl, rfl, ?_⟩
      refine ⟨.int ((ns[i] : Nat) : Int), rfl, .ref L, rfl, L, _, rfl, .inl (.inl (.inl eLU)), rfl, _, rfl, ite2 (fun e => ?_) (fun e => ?_)⟩
      · have hk : ns[i]? = some lm.length := by
          rw [List.getElem?_eq_getElem hi]
          have := V.int.inj (of_decide_eq_true e)
          rw [List.length_map] at this
          congr 1
          omega
        obtain ⟨row, hr1, qs, eq, hq⟩ := awGet hmac2 (List.getElem?_eq_getElem hil)
        have rm := List.mem_of_getElem? hr1
        have r8 := ok.rows row rm
        have ql := awLen hq
        have st2 : ∀ b u, H2 b = some u → upd H3 U (.tup [.int ((ns[i] : Nat) : Int), .ref ls[i]]) b = some u := fun b u z => sU _ _ (st b u z)
        refine ⟨.ref L, rfl, .inl ⟨rfl, _, .inl (.inl eLU)⟩, .ref ls[i], rfl, ls[i], rfl, ⟨_, .inl (.inl (st2 _ _ eq))⟩, fun G hG => ?_⟩
        refine lc_it (walk_list (K := K) (a := ls[i]) (xs := qs.map V.ref)) (fun t H6 => ∃ ws, H6 G = some (.lst (ws.map V.ref)) ∧ PrAt H6 ws ((low ns row).take t) ∧ Same (upd H3 U (.tup [.int ((ns[i] : Nat) : Int), .ref ls[i]])) H6) ⟨[], upd_same, .nil, same_new hG⟩ (fun t H6 _ hp => ?_) (fun t x H6 H7 ht hp hy => ?_) (fun H6 hp => ?_)
        · obtain ⟨_, _, _, s6⟩ := hp
          exact .inl (.inl (s6 _ _ (st2 _ _ eq)))
        · obtain ⟨ws, eG, hw, s6⟩ := hp
          obtain ⟨rfl, hx⟩ := hy
          have ht2 : t < qs.length := by rwa [List.length_map] at ht
          have hx' : x = .ref qs[t] := by
            rw [List.getElem?_map, List.getElem?_eq_getElem ht2] at hx
            exact (Option.some.inj hx).symm
          subst hx'
          obtain ⟨e, he1, he2⟩ := awGet hq (List.getElem?_eq_getElem ht2)
          obtain ⟨j, hj1, hj2⟩ := ok.ends row rm e (List.mem_of_getElem? he1)
          have jn : j < ns.length := by omega
          have gd : ns.getD e.2.toNat 0 = ns[j] := by
            rw [hj1, Int.toNat_natCast]
            simp [List.getD, List.getElem?_eq_getElem jn]
          have wl := awLen hw
          rw [List.length_take] at wl
          refine ⟨qs[t], [.int e.1, .int e.2], rfl, .inl (.inl (s6 _ _ (st2 _ _ he2))), rfl, .int e.1, [.int e.2], rfl, .int e.2, [], rfl, rfl, rfl, .int e.1, rfl, .ref Kd, rfl, .int e.2, rfl, Kd, _, e.2, .int ((ns[j] : Nat) : Int), rfl, rfl, .inl (.inl (s6 _ _ (st2 _ _ eK))), ?_, by show 2 ≤ sizeLine; decide, fun T hT => ?_⟩
          · rw [hj1]
            exact atI_nat (by rw [List.getElem?_map, List.getElem?_map, List.getElem?_eq_getElem jn]; rfl)
          have sT := same_new (o := .tup [.int e.1, .int ((ns[j] : Nat) : Int)]) hT
          have eG2 := sT _ _ eG
          have tp := tups_put (o := .lst (ws.map V.ref ++ [V.ref T])) eG2
          refine ⟨_, eG2, ?_, ws ++ [T], ?_, ?_, fun b u z => ?_⟩
          · rw [List.length_map]
            exact small1000 (by omega)
          · rw [upd_same, List.map_append]
            rfl
          · rw [List.take_add_one, List.getElem?_map, he1, Option.map_some, gd]
            exact prat_stay tp (awSnoc (F := fun (q : Addr) (e' : Int × Int) => (upd H7 T (.tup [.int e.1, .int ((ns[j] : Nat) : Int)])) q = some (.tup [.int e'.1, .int e'.2])) upd_same (prat_stay (Same.tups sT) hw))
          · rw [upd_ne (ne_of_none z hG)]
            exact sT _ _ (s6 b u z)
        · obtain ⟨ws, eG, hw, s6⟩ := hp
          rw [List.length_map, ql, ← List.length_map (as := row) (f := fun e => (e.1, ((ns.getD e.2.toNat 0 : Nat) : Int))), List.take_length] at hw
          have eL6 := s6 _ _ eLU
          have tp := tups_put (o := .lst (ms.map V.ref ++ [V.ref G])) eL6
          have nGL : G ≠ L := fun z => by rw [z, eLU] at hG; cases hG
          refine ⟨L, _, _, rfl, rfl, eL6, ?_, _, _, _, _, ms ++ [G], lm ++ [low ns row], rfl, ?_, ?_, li.new hk hr1, fun l hl => ?_, fun b u z => ?_⟩
          · rw [List.length_map]
            exact small1000 (by omega)
          · rw [upd_same, List.map_append]
            rfl
          · refine awSnoc (F := RowL (upd H6 L (.lst (ms.map V.ref ++ [V.ref G])))) ⟨ws, ?_, prat_stay tp hw⟩ (macl_stay ((Same.tups (sU.trans s6)).trans tp) (fun l hl xs z => ?_) hms)
            · rw [upd_ne nGL]
              exact eG
            · rw [upd_ne (nms l hl)]
              exact s6 _ _ (sU _ _ z)
          · rcases List.mem_append.mp hl with hl | hl
            · exact nms l hl
            · rw [List.mem_singleton.mp hl]
              exact nGL
          · rw [upd_ne (ne_of_none z hL)]
            exact s6 _ _ (st2 b u z)
      · have hk : ns[i] ≠ lm.length := fun z => e (by
          apply decide_eq_true
          rw [List.length_map, mll, z])
        exact ⟨_, _, _, _, ms, lm, rfl, eLU, macl_same sU hms, li.old kk.rg (List.getElem?_eq_getElem hi) hk, nms, fun b u z => sU _ _ (st b u z)⟩
    · obtain ⟨y4, y5, y6, y7, ms, lm, rfl, eL, hms, li, nms, st⟩ := hp
      have lil := li.len
      exact ⟨.ref L, rfl, q H3 L ms lm (fun b u z => st _ _ (s2 _ _ (s1 b u z))) ((s1.trans s2).free hL) eL hms ⟨⟨_, li.sim kk wm hl ok.pos⟩, by omega⟩⟩
/-! ### both_steps -/
abbrev Bst := (Int × Int) × (Int × Int)
def BsE (H : Hp) (t : Addr) (e : Bst) : Prop := ∃ c, H t = some (.tup [.int e.1.1, .int e.2.1, .ref c]) ∧ H c = some (.tup [.int e.1.2, .int e.2.2])
abbrev BsAt (H : Hp) : List Addr → List Bst → Prop := Paired (BsE H)
theorem bse_stay {H H' : Hp} (t : TupsStay H H') {a : Addr} {e : Bst} (h : BsE H a e) : BsE H' a e := h.elim fun c y => ⟨c, t _ _ y.1, t _ _ y.2⟩
theorem bsat_stay {H H' : Hp} (t : TupsStay H H') {ts : List Addr} {l : List Bst} (h : BsAt H ts l) : BsAt H' ts l := awMap (fun _ _ z => bse_stay t z) h
def spBs : Sp := fun vs H Q _ => ∃ (l1 l2 : Addr) (r1 r2 : MRow), vs = [.ref l1, .ref l2] ∧ RowL H l1 r1 ∧ RowL H l2 r2 ∧ r1.length = r2.length ∧ r1.length ≤ 8 ∧
  ∀ H' p ts, Same H H' → H p = none → H' p = some (.lst (ts.map V.ref)) → BsAt H' ts (r1.zip r2) → Q (.ref p) H'
theorem ok_bs {f : Addr} {fd : FuncData} {k : Nat} (F : Fun K "both_steps" "both_steps" s_both_steps f fd) (mz : mg "zip" = none) : FnOk P w K mg base CX0 (k + 1) f fd ["ones", "others"] spBs := by
  refine F.ok sc_both_steps (fun vs H Q E h => ?_) (fun cdv A outer s H vs Q E hr h => ?_)
  · obtain ⟨l1, l2, r1, r2, rfl, _⟩ := h
    rfl
  · obtain ⟨l1, l2, r1, r2, rfl, ⟨qs1, e1, h1⟩, ⟨qs2, e2, h2⟩, hl, h8, q⟩ := h
    refine ⟨_, pss_one (ps_ret (pe_lc (own := [("bit", 2), ("after", 3), ("others_bit", 4), ("others_after", 5)]) (g := gTup K 2 (gCons (gTup K 2 (gCons (gName 2) (gCons (gName 3) gNil))) (gCons (gTup K 2 (gCons (gName 4) (gCons (gName 5) gNil))) gNil))) (by rfl) sc_both_steps.nd (pi_zip (by rfl) mz (pa_cons (pv 0) (pa_cons (pv 1) pa_nil)))
        (blkOk_by (own := [("bit", 2), ("after", 3), ("others_bit", 4), ("others_after", 5)]) (N := N_both_steps) (sc := defScope s_both_steps) (by decide +kernel))
        (fun _ _ _ _ _ => pg_tup rfl (pgs_cons (pg_tup rfl (pgs_cons (pg_name (i := 2) sc_both_steps.nd rfl (.inl rfl)) (pgs_cons (pg_name (i := 3) sc_both_steps.nd rfl (.inl rfl)) pgs_nil))) (pgs_cons (pg_tup rfl (pgs_cons (pg_name (i := 4) sc_both_steps.nd rfl (.inl rfl)) (pgs_cons (pg_name (i := 5) sc_both_steps.nd rfl (.inl rfl)) pgs_nil))) pgs_nil)))
        (fun _ _ _ _ _ => pts_nil) (fun _ _ _ _ _ => pe_tup (pa_cons (pv 2) (pa_cons (pv 4) (pa_cons (pe_tup (pa_cons (pv 3) (pa_cons (pv 5) pa_nil))) pa_nil)))))), ?_⟩
    have q1 := awLen h1
    have q2 := awLen h2
    refine ⟨.ref l1, rfl, .ref l2, rfl, l1, l2, _, _, rfl, .inl (.inl e1), .inl (.inl e2), fun L hL => ?_⟩
    refine lc_it (walk_zip (K := K) (a := l1) (b := l2) (xs := qs1.map V.ref) (ys := qs2.map V.ref) (n := r1.length) (by rw [List.length_map, List.length_map, q1, q2, ← hl, Nat.min_self])) (fun j H4 => ∃ ts, H4 L = some (.lst (ts.map V.ref)) ∧ BsAt H4 ts ((r1.zip r2).take j) ∧ Same H H4) ⟨[], upd_same, .nil, same_new hL⟩ (fun j H4 _ h4 => ?_) (fun j x H4 H5 hj h4 hx => ?_) (fun H4 h4 => ?_)
    · obtain ⟨_, _, _, s4⟩ := h4
      exact ⟨.inl (.inl (s4 _ _ e1)), .inl (.inl (s4 _ _ e2))⟩
    · obtain ⟨ts, eL, hts, s4⟩ := h4
      obtain ⟨U, x1, x2, rfl, hU, rfl, g1, g2⟩ := hx
      have hj1 : j < qs1.length := by omega
      have hj2 : j < qs2.length := by omega
      have e1' : x1 = .ref qs1[j] := by
        have g1' : (qs1.map V.ref)[j]? = some x1 := g1
        rw [List.getElem?_map, List.getElem?_eq_getElem hj1] at g1'
        exact (Option.some.inj g1').symm
      have e2' : x2 = .ref qs2[j] := by
        have g2' : (qs2.map V.ref)[j]? = some x2 := g2
        rw [List.getElem?_map, List.getElem?_eq_getElem hj2] at g2'
        exact (Option.some.inj g2').symm
      subst e1' e2'
      obtain ⟨a, ha1, ha2⟩ := awGet h1 (List.getElem?_eq_getElem hj1)
      obtain ⟨b, hb1, hb2⟩ := awGet h2 (List.getElem?_eq_getElem hj2)
      have sU := same_new (o := .tup [.ref qs1[j], .ref qs2[j]]) hU
      have f1 := sU _ _ (s4 _ _ ha2)
      have f2 := sU _ _ (s4 _ _ hb2)
      refine ⟨U, [.ref qs1[j], .ref qs2[j]], rfl, .inl (.inl upd_same), rfl, .ref qs1[j], [.ref qs2[j]], rfl, qs1[j], [.int a.1, .int a.2], rfl, .inl (.inl f1), rfl, .int a.1, [.int a.2], rfl, .int a.2, [], rfl, rfl, .ref qs2[j], [], rfl, qs2[j], [.int b.1, .int b.2], rfl, .inl (.inl f2), rfl, .int b.1, [.int b.2], rfl, .int b.2, [], rfl, rfl, rfl, rfl, ?_⟩
      refine ⟨.int a.1, rfl, .int b.1, rfl, .int a.2, rfl, .int b.2, rfl, (by show 2 ≤ sizeLine; decide), fun C hC => ⟨(by show 3 ≤ sizeLine; decide), fun T hT => ?_⟩⟩
      have sC := same_new (o := .tup [.int a.2, .int b.2]) hC
      have sT := same_new (o := .tup [.int a.1, .int b.1, .ref C]) hT
      have s5 := sU.trans (sC.trans sT)
      have eL5 := s5 _ _ eL
      have lt := awLen hts
      rw [List.length_take] at lt
      have hz : (r1.zip r2)[j]? = some (a, b) := by
        rw [List.getElem?_zip_eq_some]
        exact ⟨ha1, hb1⟩
      refine ⟨_, eL5, ?_, ts ++ [T], ?_, ?_, ?_⟩
      · rw [List.length_map]
        exact small1000 (by omega)
      · rw [upd_same, List.map_append]
        rfl
      · rw [List.take_add_one, hz]
        exact bsat_stay (tups_put eL5) (awSnoc (F := BsE _) (y := (a, b)) ⟨C, upd_same, sT _ _ upd_same⟩ (bsat_stay (Same.tups s5) hts))
      · intro b' u e
        rw [upd_ne (ne_of_none e hL)]
        exact s5 _ _ (s4 _ _ e)
    · obtain ⟨ts, eL, hts, s4⟩ := h4
      have : (r1.zip r2).length = r1.length := by rw [List.length_zip, ← hl, Nat.min_self]
      rw [← this, List.take_length] at hts
      exact q H4 L ts s4 hL eL hts
/-! ### agreeing -/
def agB (e : Bst) : Bool := decide (e.1.1 = e.2.1)
def agr (r1 r2 : MRow) : List Bst := (r1.zip r2).filter agB
abbrev pr (p : Nat × Nat) : List Int := [(p.1 : Int), (p.2 : Int)]
theorem pr_inj {p q : Nat × Nat} (h : pr p = pr q) : p = q := by
  obtain ⟨a, b⟩ := p
  obtain ⟨c, d⟩ := q
  simp only [pr, List.cons.injEq, and_true] at h
  rw [Int.ofNat.inj h.1, Int.ofNat.inj h.2]
abbrev NumsOf (ps : List (Nat × Nat)) : List Nat → List Bst → Prop := Paired fun n e => ∃ a b : Nat, e.1.2 = (a : Int) ∧ e.2.2 = (b : Int) ∧ ps[n]? = some (a, b)
structure AgOk (l1 l2 : List MRow) (ps : List (Nat × Nat)) (bh : List (List Nat)) : Prop where
  nd : ps.Nodup
  first : ps[0]? = some (0, 0)
  each : ∀ (i : Nat) row, bh[i]? = some row → ∃ p r1 r2, ps[i]? = some p ∧ l1[p.1]? = some r1 ∧ l2[p.2]? = some r2 ∧ NumsOf ps row (agr r1 r2)
abbrev NmAt (H : Hp) : List Addr → List (List Nat) → Prop := Paired fun l (row : List Nat) => H l = some (.lst ((zs row).map V.int))
theorem prod_len (n1 n2 : Nat) : ((List.range n1).flatMap fun a => (List.range n2).map fun b => (a, b)).length = n1 * n2 := by
  rw [List.length_flatMap]
  have : (List.range n1).map (fun a => ((List.range n2).map fun b => (a, b)).length) = List.replicate n1 n2 := by
    rw [show (fun a => ((List.range n2).map fun b => (a, b)).length) = fun (_ : Nat) => n2 from funext fun a => by rw [List.length_map, List.length_range]]
    rw [List.map_const', List.length_range]
  rw [this, List.sum_replicate_nat]
theorem few_ps {ps : List (Nat × Nat)} {n1 n2 : Nat} (nd : ps.Nodup) (h : ∀ p ∈ ps, p.1 < n1 ∧ p.2 < n2) : ps.length ≤ n1 * n2 := by
  have := pigeon ps ((List.range n1).flatMap fun a => (List.range n2).map fun b => (a, b)) nd fun p hp => by
    obtain ⟨h1, h2⟩ := h p hp
    exact List.mem_flatMap.mpr ⟨p.1, List.mem_range.mpr h1, List.mem_map.mpr ⟨p.2, List.mem_range.mpr h2, rfl⟩⟩
  rwa [prod_len] at this
def spAg : Sp := fun vs H Q _ => ∃ (R1 R2 : Addr) (m : Nat) (o1 o2 : Int) (ds1 ds2 : List Deed), vs = [.ref R1, .ref R2] ∧ RowAt H R1 m ds1 o1 ∧ RowOk m ds1 o1 ∧ RowAt H R2 m ds2 o2 ∧ RowOk m ds2 o2 ∧
  ∀ H' p ls l1 l2 S1 S2 ps bh, Same H H' → H p = none → H' p = some (.lst (ls.map V.ref)) → NmAt H' ls bh → Sim m ds1 o1 l1 S1 → Sim m ds2 o2 l2 S2 → AgOk l1 l2 ps bh → (∀ p ∈ ps, (∃ c, S1 c p.1) ∧ ∃ c, S2 c p.2) → bh.length = ps.length → ps.length ≤ 65536 → Q (.ref p) H'
set_option maxHeartbeats 4000000 in
theorem ok_ag {f fA fL fB fI fM C : Addr} {fd fdA fdL fdB fdI fdM : FuncData} {k : Nat} (F : Fun K "agreeing" "agreeing" s_agreeing f fd) (T : WCls K mg C)
    (GL : FnOk P w K mg base CX0 (k + 6) fL fdL ["row"] spLm) (kL : PySem.W.keepIn K (.ref fL) = true) (bL : Binds K fdL ["row"] []) (gL : mg "least_machine" = some (.ref fL))
    (GA : FnOk P w K mg base CX0 (k + 1) fA fdA ["many"] spAll) (kA : PySem.W.keepIn K (.ref fA) = true) (bA : Binds K fdA ["many"] []) (gA : mg "all_bits" = some (.ref fA))
    (GB : FnOk P w K mg base CX0 (k + 1) fB fdB ["ones", "others"] spBs) (kB : PySem.W.keepIn K (.ref fB) = true) (bB : Binds K fdB ["ones", "others"] []) (gB : mg "both_steps" = some (.ref fB))
    (MK : Mk K C fI) (GI : FnOk P w K mg base CX0 (k + 1) fI fdI ["self", "first"] (spWi P w C)) (bI : Binds K fdI ["self", "first"] [])
    (MM : Meth K C "meet" fM) (GM : FnOk P w K mg base CX0 (k + 1) fM fdM ["self", "thing", "ahead", "bits"] (spWm P w C)) (bM : Binds K fdM ["self", "thing", "ahead", "bits"] [])
    (mn : mg "len" = none) (mz : mg "zip" = none) : FnOk P w K mg base CX0 (k + 7) f fd ["row", "other"] spAg := by
  refine F.ok sc_agreeing (fun vs H Q E h => ?_) (fun cdv A outer s H vs Q E hr h => ?_)
  · obtain ⟨R1, R2, m, o1, o2, ds1, ds2, rfl, _⟩ := h
    rfl
  · obtain ⟨R1, R2, m, o1, o2, ds1, ds2, rfl, hrow1, hok1, hrow2, hok2, q⟩ := h
    obtain ⟨D1, rs1, eR1, eD1, hd1⟩ := id hrow1
    have r1 := hr.mono (show k + 1 ≤ k + 6 by omega)
    have r2 := hr.mono (show k + 1 + 1 ≤ k + 6 by omega)
    refine ⟨_, pss_cons (ps_par (i := 2) (j := 3) rfl sc_agreeing.nd rfl rfl (by decide) rfl rfl (pa_cons (pe_call GL hr (by rfl) gL kL bL .nil pass0 (pa_cons (pv 0) pa_nil)) (pa_cons (pe_call GL hr (by rfl) gL kL bL .nil pass0 (pa_cons (pv 1) pa_nil)) pa_nil)) (by rfl))
      (pss_cons (ps_set (i := 4) sc_agreeing.nd rfl (.inl rfl) (pe_call GA r1 (by rfl) gA kA bA .nil pass0 (pa_cons (pe_ix ix_tup (pv 0) pe_int (fun _ _ => rfl)) pa_nil)))
      (pss_cons (ps_set (i := 5) sc_agreeing.nd rfl (.inl rfl) (pe_make MK GI r2 (by rfl) T.mgC bI .nil pass0 (pa_cons (pe_tup (pa_cons pe_int (pa_cons pe_int pa_nil))) pa_nil)))
      (pss_cons (ps_set (i := 6) sc_agreeing.nd rfl (.inl rfl) (pe_lst pa_nil))
      (pss_cons (ps_while PassesOwn.never (pt_cmpR op_lt (pe_callB call_len_seq (by rfl) mn PySem.boot_len (pa_cons (pv 6) pa_nil)) (pe_callB call_len_seq (by rfl) mn PySem.boot_len (pa_cons (pe_fld (pv 5) rfl) pa_nil)) (nomark _))
        (pss_cons (ps_set (i := 7) sc_agreeing.nd rfl (.inl rfl) (pe_callB call_len_seq (by rfl) mn PySem.boot_len (pa_cons (pv 6) pa_nil)))
        (pss_cons (ps_asg (pe_ix ix_list (pe_fld (pv 5) rfl) (pv 7) (fun _ _ => rfl)) (pg_tup rfl (pgs_cons (pg_name (i := 8) sc_agreeing.nd rfl (.inl rfl)) (pgs_cons (pg_name (i := 9) sc_agreeing.nd rfl (.inl rfl)) pgs_nil))))
        (pss_cons (ps_set (i := 10) sc_agreeing.nd rfl (.inl rfl) (pe_lst pa_nil))
        (pss_cons (ps_for PassesOwn.never rfl (pi_zip (by rfl) mz (pa_cons (pv 4) (pa_cons (pe_call GB r1 (by rfl) gB kB bB .nil pass0 (pa_cons (pe_ix ix_list (pv 2) (pv 8) (fun _ _ => rfl)) (pa_cons (pe_ix ix_list (pv 3) (pv 9) (fun _ _ => rfl)) pa_nil))) pa_nil))) (pg_tup rfl (pgs_cons (pg_name (i := 11) sc_agreeing.nd rfl (.inl rfl)) (pgs_cons (pg_tup rfl (pgs_cons (pg_name (i := 12) sc_agreeing.nd rfl (.inl rfl)) (pgs_cons (pg_name (i := 13) sc_agreeing.nd rfl (.inl rfl)) (pgs_cons (pg_name (i := 14) sc_agreeing.nd rfl (.inl rfl)) pgs_nil)))) pgs_nil)))
          (pss_one (ps_if (pt_cmpR op_eq (pv 12) (pv 13) (nomark _)) (pss_one (ps_expr (pe_bm PySem.F.plainAttrs_list PySem.F.slot_list_append PySem.F.type_list_append mt_append (pv 10) (pa_cons (pe_meth (pv 5) T.cl MM GM r1 bM .nil pass0 (pa_cons (pv 14) (pa_cons (pv 7) (pa_cons (pv 11) pa_nil)))) pa_nil)))) pss_nil)))
        (pss_one (ps_expr (pe_bm PySem.F.plainAttrs_list PySem.F.slot_list_append PySem.F.type_list_append mt_append (pv 6) (pa_cons (pv 10) pa_nil)))))))))
      (pss_one (ps_ret (pv 6))))))), ?_⟩
    have m3 := hok1.m3
    refine ⟨.ref R1, rfl, R1, m, o1, ds1, rfl, hrow1, hok1, fun Ha O1 ls1 l1 sa nO1 eO1 hm1 lk1 => ?_⟩
    refine ⟨.ref R2, rfl, R2, m, o2, ds2, rfl, (Same.tups sa).row hrow2, hok2, fun Hb O2 ls2 l2 sb nO2 eO2 hm2 lk2 => ?_⟩
    refine ⟨_, _, rfl, ?_⟩
    refine ⟨.ref R1, rfl, R1, _, 0, .int m, rfl, rfl, SqT.of (sb _ _ (sa _ _ eR1)), rfl, m, rfl, by omega, fun H2 Ch fs s1 nCh eCh hf => ?_⟩
    obtain ⟨S1, sm1⟩ := lk1.sim
    obtain ⟨S2, sm2⟩ := lk2.sim
    have few1 := lk1.few
    have few2 := lk2.few
    have eO1' := s1 _ _ (sb _ _ eO1)
    have eO2' := s1 _ _ eO2
    have hm1' := macl_same (sb.trans s1) hm1
    have hm2' := macl_same s1 hm2
    have s02 : Same H H2 := sa.trans (sb.trans s1)
    have fl : fs.length = 2 ^ m := by rw [awLen hf, allB_len]
    refine ⟨(by show 2 ≤ sizeLine; decide), fun Fi hFi => ?_⟩
    have sFi := same_new (o := .tup [.int 0, .int 0]) hFi
    obtain ⟨H2b, hH2b⟩ : ∃ H2b, H2b = upd H2 Fi (.tup [.int 0, .int 0]) := ⟨_, rfl⟩
    have s22 : Same H2 H2b := by rw [hH2b]; exact sFi
    have eFi : H2b Fi = some (.tup ((pr (0, 0)).map V.int)) := by rw [hH2b]; exact upd_same
    rw [← hH2b]
    intro Wk dx nWk ndx nex
    have kW : ∀ c u, H2b c = some u → upd (upd H2b dx (.own Wk)) Wk (.ins C dx []) c = some u := fun c u e => by
      rw [upd_ne (ne_of_none e nWk), upd_ne (ne_of_none e ndx)]
      exact e
    refine ⟨Wk, dx, Fi, kC (pr (0, 0)), rfl, upd_same, keyC (kW _ _ eFi), fun H3 M N W hw nM nN nW kp => ⟨rfl, ?_⟩⟩
    have s3 : Same H2b H3 := fun c u e => kp c u (ne_of_none e nWk) (kW c u e)
    have s23 := s22.trans s3
    have back : ∀ a : Addr, upd (upd H2b dx (.own Wk)) Wk (.ins C dx []) a = none → H2b a = none := fun a h => by
      cases e : H2b a with
      | none => rfl
      | some u => rw [kW a u e] at h; cases h
    have hM2 := s22.free (back _ nM)
    have hN2 := s22.free (back _ nN)
    have hW2 := s22.free (back _ nW)
    refine ⟨Nat.zero_le _, fun Mc hMc => ?_⟩
    have sMc := same_new (o := .lst []) hMc
    have nMM : Mc ≠ M := fun z => by rw [z, hw.met] at hMc; cases hMc
    have nMN : Mc ≠ N := fun z => by rw [z, hw.num.ob] at hMc; cases hMc
    have nMW : Mc ≠ W := fun z => by obtain ⟨ws, e, _⟩ := hw.ways; rw [z, e] at hMc; cases hMc
    have hMc2 : H2 Mc = none := s23.free hMc
    have gd0 : ∀ p ∈ [((0 : Nat), (0 : Nat))], (∃ c, S1 c p.1) ∧ ∃ c, S2 c p.2 := fun p hp => by
      rw [List.mem_singleton.mp hp]
      exact ⟨⟨_, sm1.1⟩, ⟨_, sm2.1⟩⟩
    have few : ∀ {ps : List (Nat × Nat)}, ps.Nodup → (∀ p ∈ ps, (∃ c, S1 c p.1) ∧ ∃ c, S2 c p.2) → ps.length ≤ 65536 := fun {ps} nd gd => by
      have := few_ps (n1 := l1.length) (n2 := l2.length) nd fun p hp => by
        obtain ⟨⟨c1, h1⟩, ⟨c2, h2⟩⟩ := gd p hp
        obtain ⟨row1, g1, _⟩ := sm1.2 _ _ h1
        obtain ⟨row2, g2, _⟩ := sm2.2 _ _ h2
        exact ⟨(List.getElem?_eq_some_iff.mp g1).1, (List.getElem?_eq_some_iff.mp g2).1⟩
      exact Nat.le_trans this (Nat.le_trans (Nat.mul_le_mul few1 few2) (by decide))
    have ndOf : ∀ {ps : List (Nat × Nat)} {ts : List WT}, (ts.map (·.1)).Nodup → ts.map (·.1) = (ps.map pr).map kC → ps.Nodup := fun {ps ts} nd ek => by
      have := keys_nd nd ek
      exact List.Pairwise.imp (fun {a b} z y => z (congrArg pr y)) (List.pairwise_map.mp this)
    have p8 : 2 ^ m ≤ 8 := Nat.le_trans (Nat.pow_le_pow_right (by decide) (show m ≤ 3 by omega)) (by decide)
    refine ⟨fun n σ H4 => ∃ y7 y8 y9 y10 y11 y12 y13 y14 ps ts wy ls bh, σ = [some (.ref R1), some (.ref R2), some (.ref O1), some (.ref O2), some (.ref Ch), some (.ref Wk), some (.ref Mc), y7, y8, y9, y10, y11, y12, y13, y14] ∧ WalkAt P w C H4 Wk M N W ts wy ∧ ts.map (·.1) = (ps.map pr).map kC ∧ AgOk l1 l2 ps bh ∧ (∀ p ∈ ps, (∃ c, S1 c p.1) ∧ ∃ c, S2 c p.2) ∧ bh.length ≤ ps.length ∧ H4 Mc = some (.lst (ls.map V.ref)) ∧ NmAt H4 ls bh ∧ (∀ l ∈ ls, l ≠ M ∧ l ≠ N ∧ l ≠ W ∧ l ≠ Mc) ∧ Same H2 H4 ∧ n = 65537 - bh.length,
      ⟨_, none, none, none, none, none, none, none, none, [(0, 0)], [(kC (pr (0, 0)), Fi)], [(0, [])], [], [], rfl, hw.same sMc, rfl, ⟨by simp, rfl, fun i row h => by simp at h⟩, gd0, Nat.zero_le _, upd_same, .nil, (fun _ z => nomatch z), s23.trans sMc, rfl⟩, fun n σ H4 hp => ?_⟩
    obtain ⟨y7, y8, y9, y10, y11, y12, y13, y14, ps, ts, wy, ls, bh, rfl, hw4, ek, ag, gd, ml, eMc, hbh, lsne, s4, rfl⟩ := hp
    obtain ⟨dxw, ob4⟩ := hw4.ob
    have psl := keys_len ek
    rw [List.length_map] at psl
    have fw := few ag.nd gd
    have mll := awLen hbh
    refine ⟨.ref Mc, rfl, Mc, _, rfl, .inl (.inl (.inl eMc)), .ref Wk, rfl, Wk, C, dxw, _, _, rfl, ob4, T.cl, T.nM, wF_met _ _ _, M, _, rfl, .inl (.inl (.inl hw4.met)), _, _, rfl, rfl, _, rfl, ite2 (fun e => ?_) (fun e => ?_)⟩
    · have lt : bh.length < ps.length := by
        have := of_decide_eq_true e
        rw [List.length_map, List.length_map] at this
        omega
      refine ⟨fun σ' H' => ∃ m', m' < 65537 - bh.length ∧ (∃ y7 y8 y9 y10 y11 y12 y13 y14 ps ts wy ls bh, σ' = [some (.ref R1), some (.ref R2), some (.ref O1), some (.ref O2), some (.ref Ch), some (.ref Wk), some (.ref Mc), y7, y8, y9, y10, y11, y12, y13, y14] ∧ WalkAt P w C H' Wk M N W ts wy ∧ ts.map (·.1) = (ps.map pr).map kC ∧ AgOk l1 l2 ps bh ∧ (∀ p ∈ ps, (∃ c, S1 c p.1) ∧ ∃ c, S2 c p.2) ∧ bh.length ≤ ps.length ∧ H' Mc = some (.lst (ls.map V.ref)) ∧ NmAt H' ls bh ∧ (∀ l ∈ ls, l ≠ M ∧ l ≠ N ∧ l ≠ W ∧ l ≠ Mc) ∧ Same H2 H' ∧ m' = 65537 - bh.length), fun σ' H' z => z, ?_⟩
      have lenI : ((ls.map V.ref).length : Int) = ((bh.length : Nat) : Int) := by rw [List.length_map, mll]
      refine ⟨.ref Mc, rfl, Mc, _, rfl, .inl (.inl (.inl eMc)), ?_⟩
      rw [lenI]
      have hti : bh.length < ts.length := by omega
      obtain ⟨c0, hc0, ht1⟩ := keys_at ek (List.getElem?_eq_getElem hti)
      rw [List.getElem?_map] at hc0
      obtain ⟨p0, hp0, rfl⟩ := Option.map_eq_some_iff.mp hc0
      have hkey := hw4.keys _ (List.getElem_mem hti)
      rw [ht1] at hkey
      have ecb := keyC_tup hkey
      refine ⟨.ref Wk, rfl, Wk, C, dxw, _, _, rfl, ob4, T.cl, T.nM, wF_met _ _ _, .int _, rfl, M, _, _, .ref (ts[bh.length]).2, rfl, rfl, .inl (.inl hw4.met), atI_nat (by rw [List.getElem?_map, List.getElem?_eq_getElem hti]; rfl), ?_⟩
      generalize (ts[bh.length]).2 = cb at ecb
      refine ⟨cb, [.int (p0.1 : Int), .int (p0.2 : Int)], rfl, .inl (.inl ecb), rfl, .int (p0.1 : Int), [.int (p0.2 : Int)], rfl, .int (p0.2 : Int), [], rfl, rfl, ?_⟩
      obtain ⟨⟨c1, hS1⟩, ⟨c2, hS2⟩⟩ := gd p0 (List.mem_of_getElem? hp0)
      obtain ⟨row1, g1, pd1⟩ := sm1.2 _ _ hS1
      obtain ⟨row2, g2, pd2⟩ := sm2.2 _ _ hS2
      have rl1 : row1.length = 2 ^ m := by rw [awLen pd1, stp_len]
      have rl2 : row2.length = 2 ^ m := by rw [awLen pd2, stp_len]
      refine ⟨Nat.zero_le _, fun St hSt => ?_⟩
      have sSt := same_new (o := .lst []) hSt
      have nSM : St ≠ M := fun z => by rw [z, hw4.met] at hSt; cases hSt
      have nSN : St ≠ N := fun z => by rw [z, hw4.num.ob] at hSt; cases hSt
      have nSW : St ≠ W := fun z => by obtain ⟨ws, e, _⟩ := hw4.ways; rw [z, e] at hSt; cases hSt
      have nSMc : St ≠ Mc := fun z => by rw [z, eMc] at hSt; cases hSt
      have nSWk : St ≠ Wk := fun z => by rw [z, ob4] at hSt; cases hSt
      have nSls : ∀ l ∈ ls, l ≠ St := fun l hl z => by
        obtain ⟨i, hi⟩ := List.mem_iff_getElem?.mp hl
        obtain ⟨row, _, h1⟩ := awGet hbh hi
        have h1' : H4 l = _ := h1
        rw [z, hSt] at h1'
        cases h1'
      have hSt2 : H2 St = none := s4.free hSt
      have s2S := s4.trans sSt
      have hmS1 := macl_same s2S hm1'
      have hmS2 := macl_same s2S hm2'
      obtain ⟨la, hla, hra⟩ : ∃ la, ls1[p0.1]? = some la ∧ RowL (upd H4 St (.lst [])) la row1 := by
        have hi : p0.1 < ls1.length := by
          rw [awLen hm1']
          exact (List.getElem?_eq_some_iff.mp g1).1
        obtain ⟨r, h1, h2⟩ := awGet hmS1 (List.getElem?_eq_getElem hi)
        rw [g1] at h1
        obtain rfl := Option.some.inj h1
        exact ⟨_, List.getElem?_eq_getElem hi, h2⟩
      obtain ⟨lb, hlb, hrb⟩ : ∃ lb, ls2[p0.2]? = some lb ∧ RowL (upd H4 St (.lst [])) lb row2 := by
        have hi : p0.2 < ls2.length := by
          rw [awLen hm2']
          exact (List.getElem?_eq_some_iff.mp g2).1
        obtain ⟨r, h1, h2⟩ := awGet hmS2 (List.getElem?_eq_getElem hi)
        rw [g2] at h1
        obtain rfl := Option.some.inj h1
        exact ⟨_, List.getElem?_eq_getElem hi, h2⟩
      refine ⟨.ref Ch, rfl, .ref O1, rfl, .int (p0.1 : Int), rfl, O1, _, (p0.1 : Int), .ref la, rfl, rfl, .inl (.inl (s2S _ _ eO1')), atI_nat (by rw [List.getElem?_map, hla]; rfl), .ref O2, rfl, .int (p0.2 : Int), rfl, O2, _, (p0.2 : Int), .ref lb, rfl, rfl, .inl (.inl (s2S _ _ eO2')), atI_nat (by rw [List.getElem?_map, hlb]; rfl), la, lb, row1, row2, rfl, hra, hrb, by omega, by omega, fun H5 Sp zs' s5 nSp eSp hzs => ?_⟩
      have s45 := sSt.trans s5
      have zl : (row1.zip row2).length = 2 ^ m := by rw [List.length_zip, rl1, rl2, Nat.min_self]
      have zsl : zs'.length = 2 ^ m := by rw [awLen hzs, zl]
      have nSpM : Sp ≠ M := fun z => by rw [z, sSt _ _ hw4.met] at nSp; cases nSp
      have nSpN : Sp ≠ N := fun z => by rw [z, sSt _ _ hw4.num.ob] at nSp; cases nSp
      have nSpW : Sp ≠ W := fun z => by obtain ⟨ws, e, _⟩ := hw4.ways; rw [z, sSt _ _ e] at nSp; cases nSp
      have nSpS : Sp ≠ St := fun z => by rw [z, upd_same] at nSp; cases nSp
      have s25 := s4.trans s45
      have eCh5 := s25 _ _ eCh
      have nChM : Ch ≠ M := ne_of_none eCh hM2
      have nChN : Ch ≠ N := ne_of_none eCh hN2
      have nChW : Ch ≠ W := ne_of_none eCh hW2
      have nChS : Ch ≠ St := ne_of_none eCh hSt2
      refine ⟨Ch, Sp, _, _, rfl, .inl (.inl eCh5), .inl (.inl eSp), for_it (walk_zip (K := K) (a := Ch) (b := Sp) (xs := fs.map V.ref) (ys := zs'.map V.ref) (n := 2 ^ m) (by rw [List.length_map, List.length_map, fl, zsl, Nat.min_self])) (fun j σ H6 => ∃ y11 y12 y13 y14 ps' ts' wy' nums, σ = [some (.ref R1), some (.ref R2), some (.ref O1), some (.ref O2), some (.ref Ch), some (.ref Wk), some (.ref Mc), some (.int ((bh.length : Nat) : Int)), some (.int (p0.1 : Int)), some (.int (p0.2 : Int)), some (.ref St), y11, y12, y13, y14] ∧ WalkAt P w C H6 Wk M N W ts' wy' ∧ ts'.map (·.1) = (ps'.map pr).map kC ∧ (∀ (i : Nat) c, ps[i]? = some c → ps'[i]? = some c) ∧ (∀ p ∈ ps', (∃ c, S1 c p.1) ∧ ∃ c, S2 c p.2) ∧ H6 St = some (.lst ((zs nums).map V.int)) ∧ NumsOf ps' nums (((row1.zip row2).take j).filter agB) ∧ ∀ b u, b ≠ M → b ≠ N → b ≠ W → b ≠ St → H5 b = some u → H6 b = some u)
        ⟨y11, y12, y13, y14, ps, ts, wy, [], rfl, hw4.same s45, ek, fun _ _ z => z, gd, s5 _ _ upd_same, .nil, fun _ _ _ _ _ _ z => z⟩ (fun j σ H6 _ hp => ?_) (fun j x σ H6 H7 hj hp hy => ?_) (fun σ H6 hp => ?_)⟩
      · obtain ⟨_, _, _, _, _, _, _, _, _, _, _, _, _, _, _, st⟩ := hp
        exact ⟨.inl (.inl (st _ _ nChM nChN nChW nChS eCh5)), .inl (.inl (st _ _ nSpM nSpN nSpW nSpS eSp))⟩
      · obtain ⟨y11, y12, y13, y14, ps', ts', wy', nums, rfl, hw6, ek6, pre, gd6, eSt6, hnm, st⟩ := hp
        obtain ⟨U, x1, x2, rfl, hU, rfl, gg1, gg2⟩ := hy
        have tup5 : ∀ b xs, H5 b = some (.tup xs) → H6 b = some (.tup xs) := fun b xs e => st b _ (ne_of e (s45 _ _ hw4.met) (fun y => nomatch y)) (ne_of e (s45 _ _ hw4.num.ob) (fun y => nomatch y)) (by obtain ⟨ws, e2, _⟩ := hw4.ways; exact ne_of e (s45 _ _ e2) (fun y => nomatch y)) (ne_of e (s5 _ _ upd_same) (fun y => nomatch y)) e
        have hjf : j < fs.length := by omega
        have hjp : j < zs'.length := by omega
        have e1 : x1 = .ref fs[j] := by
          have g1' : (fs.map V.ref)[j]? = some x1 := gg1
          rw [List.getElem?_map, List.getElem?_eq_getElem hjf] at g1'
          exact (Option.some.inj g1').symm
        have e2 : x2 = .ref zs'[j] := by
          have g2' : (zs'.map V.ref)[j]? = some x2 := gg2
          rw [List.getElem?_map, List.getElem?_eq_getElem hjp] at g2'
          exact (Option.some.inj g2').symm
        subst e1 e2
        obtain ⟨bs, hb1, hb2⟩ := awGet hf (List.getElem?_eq_getElem hjf)
        obtain ⟨be, hs1, ac, hs2, hs3⟩ := awGet hzs (List.getElem?_eq_getElem hjp)
        have sU := same_new (o := .tup [.ref fs[j], .ref zs'[j]]) hU
        have eb7 := sU _ _ (tup5 _ _ (s25 _ _ hb2))
        have e27 := sU _ _ (tup5 _ _ hs2)
        have e37 := sU _ _ (tup5 _ _ hs3)
        refine ⟨U, [.ref fs[j], .ref zs'[j]], rfl, .inl (.inl upd_same), rfl, .ref fs[j], [.ref zs'[j]], rfl, .ref zs'[j], [], rfl, zs'[j], [.int be.1.1, .int be.2.1, .ref ac], rfl, .inl (.inl e27), rfl, .int be.1.1, [.int be.2.1, .ref ac], rfl, .int be.2.1, [.ref ac], rfl, .ref ac, [], rfl, rfl, rfl, ?_⟩
        have nUs : U ≠ St := fun z => by rw [z, eSt6] at hU; cases hU
        obtain ⟨dx6, ob6⟩ := hw6.ob
        have hw7 := hw6.same sU
        have l6 := keys_len ek6
        rw [List.length_map] at l6
        have few6 := few (ndOf hw6.nd ek6) gd6
        have take1 : ((row1.zip row2).take (j + 1)).filter agB = ((row1.zip row2).take j).filter agB ++ if agB be then [be] else [] := by
          rw [List.take_add_one, hs1, List.filter_append]
          simp only [Option.toList_some, List.filter_cons, List.filter_nil]
        refine ⟨.int be.1.1, rfl, .int be.2.1, rfl, ⟨rfl, _, rfl, ite2 (fun hag => ?_) (fun hag => ?_)⟩⟩
        · have hag' : agB be = true := decide_eq_true (intEq hag)
          obtain ⟨ha, hb⟩ := List.getElem?_zip_eq_some.mp hs1
          obtain ⟨sx1, _, _, ja, hja, hSa⟩ := awGet pd1 ha
          obtain ⟨sx2, _, _, jb, hjb, hSb⟩ := awGet pd2 hb
          have ekey : H6 ac = some (.tup ((pr (ja, jb)).map V.int)) := by
            rw [tup5 _ _ hs3, hja, hjb]
            rfl
          refine ⟨.ref St, rfl, .inl ⟨rfl, _, .inl (.inl (sU _ _ eSt6))⟩, .ref Wk, rfl, Wk, dx6, _, rfl, sU _ _ ob6, wF_meet _ _ _, .ref ac, rfl, .int ((bh.length : Nat) : Int), rfl, .ref fs[j], rfl, Wk, M, N, W, ac, fs[j], ts', wy', kC (pr (ja, jb)), ((bh.length : Nat) : Int), bs, rfl, hw7, keyC (sU _ _ ekey), eb7, by omega, fun H8 ts2 wy2 ix hw8 hix hcase kp8 => ?_⟩
          have eSt8 := kp8 _ _ nSM nSN nSW (sU _ _ eSt6)
          have hnl := awLen hnm
          have hfl := List.length_filter_le agB ((row1.zip row2).take j)
          rw [List.length_take, zl] at hfl
          have tS := tups_put (o := .lst ((zs nums).map V.int ++ [V.int ((ix : Nat) : Int)])) eSt8
          obtain ⟨ps2, ek2, pre2, gd2, hcx⟩ : ∃ ps2 : List (Nat × Nat), ts2.map (·.1) = (ps2.map pr).map kC ∧ (∀ (i : Nat) c, ps'[i]? = some c → ps2[i]? = some c) ∧ (∀ p ∈ ps2, (∃ c, S1 c p.1) ∧ ∃ c, S2 c p.2) ∧ ps2[ix]? = some (ja, jb) := by
            obtain ⟨b', hb'⟩ := hix
            rcases hcase with ⟨rfl, rfl⟩ | ⟨rfl, rfl, rfl, _⟩
            · obtain ⟨c, hc, ec⟩ := keys_at ek6 hb'
              rw [List.getElem?_map] at hc
              obtain ⟨pc, hpc, rfl⟩ := Option.map_eq_some_iff.mp hc
              exact ⟨ps', ek6, fun _ _ z => z, gd6, by rw [hpc, pr_inj (kC_inj ec)]⟩
            · refine ⟨ps' ++ [(ja, jb)], by rw [List.map_append, List.map_append, List.map_append, ek6]; rfl, fun i c z => ?_, fun c hc => ?_, ?_⟩
              · rw [List.getElem?_append_left (List.getElem?_eq_some_iff.mp z).1]
                exact z
              · rcases List.mem_append.mp hc with hc | hc
                · exact gd6 c hc
                · rw [List.mem_singleton.mp hc]
                  exact ⟨⟨_, hSa⟩, ⟨_, hSb⟩⟩
              · rw [l6, List.getElem?_append_right (Nat.le_refl _), Nat.sub_self]
                rfl
          refine ⟨St, _, _, rfl, rfl, eSt8, ?_, _, _, _, _, ps2, ts2, wy2, nums ++ [ix], rfl, ?_, ek2, fun i c z => pre2 i c (pre i c z), gd2, ?_, ?_, ?_⟩
          · rw [List.length_map, List.length_map]
            exact small1000 (by omega)
          · refine hw8.stay tS fun c u hc e => ?_
            rw [upd_ne ?_]
            · exact e
            · rcases hc with rfl | rfl | rfl | rfl
              · exact nSWk.symm
              · exact nSM.symm
              · exact nSN.symm
              · exact nSW.symm
          · rw [upd_same]
            show _ = some (HO.lst (((nums ++ [ix]).map Int.ofNat).map V.int))
            rw [List.map_append, List.map_append]
            rfl
          · rw [take1, hag', if_pos rfl]
            exact awSnoc (F := fun (n : Nat) (e : Bst) => ∃ a b : Nat, e.1.2 = (a : Int) ∧ e.2.2 = (b : Int) ∧ ps2[n]? = some (a, b)) ⟨ja, jb, hja, hjb, hcx⟩ (awMap (fun n e z => z.elim fun a y => y.elim fun b y => ⟨a, b, y.1, y.2.1, pre2 _ _ y.2.2⟩) hnm)
          · intro b u n1 n2 n3 n4 e
            rw [upd_ne n4]
            exact kp8 b u n1 n2 n3 (sU _ _ (st b u n1 n2 n3 n4 e))
        · have hag' : agB be = false := decide_eq_false (intNe hag)
          refine ⟨_, _, _, _, ps', ts', wy', nums, rfl, hw7, ek6, pre, gd6, sU _ _ eSt6, ?_, fun b u n1 n2 n3 n4 e => sU _ _ (st b u n1 n2 n3 n4 e)⟩
          rw [take1, hag', if_neg Bool.false_ne_true, List.append_nil]
          exact hnm
      · obtain ⟨y11, y12, y13, y14, ps', ts', wy', nums, rfl, hw6, ek6, pre, gd6, eSt6, hnm, st⟩ := hp
        rw [← zl, List.take_length] at hnm
        have eMc6 := st _ _ nMM nMN nMW nSMc.symm (s45 _ _ eMc)
        have tM := tups_put (o := .lst (ls.map V.ref ++ [V.ref St])) eMc6
        refine ⟨.ref Mc, rfl, .inl ⟨rfl, _, .inl (.inl eMc6)⟩, .ref St, rfl, Mc, _, _, rfl, rfl, eMc6, ?_, _, ?_, _, _, _, _, _, _, _, _, ps', ts', wy', ls ++ [St], bh ++ [nums], rfl, ?_, ek6, ⟨ndOf hw6.nd ek6, pre _ _ ag.first, fun i r hi => ?_⟩, gd6, ?_, ?_, ?_, fun l hl => ?_, ?_, rfl⟩
        · rw [List.length_map, sizeLine_eq]
          omega
        · rw [List.length_append]
          show 65537 - (bh.length + 1) < 65537 - bh.length
          omega
        · refine hw6.stay tM fun c u hc e => ?_
          rw [upd_ne ?_]
          · exact e
          · obtain ⟨dx6, ob6⟩ := hw6.ob
            rcases hc with rfl | rfl | rfl | rfl
            · exact ne_of ob6 eMc6 (fun y => nomatch y)
            · exact nMM.symm
            · exact nMN.symm
            · exact nMW.symm
        · by_cases hil : i < bh.length
          · rw [List.getElem?_append_left hil] at hi
            obtain ⟨p', a1, a2, h1, h2, h3, h4⟩ := ag.each i r hi
            exact ⟨p', a1, a2, pre _ _ h1, h2, h3, awMap (fun n e z => z.elim fun a y => y.elim fun b y => ⟨a, b, y.1, y.2.1, pre _ _ y.2.2⟩) h4⟩
          · rw [List.getElem?_append_right (by omega)] at hi
            have hi2 := (List.getElem?_eq_some_iff.mp hi).1
            simp only [List.length_cons, List.length_nil] at hi2
            have ei : i = bh.length := by omega
            subst ei
            rw [Nat.sub_self] at hi
            obtain rfl := Option.some.inj hi
            exact ⟨p0, row1, row2, pre _ _ hp0, g1, g2, hnm⟩
        · rw [List.length_append]
          have h1 := (List.getElem?_eq_some_iff.mp (pre _ _ hp0)).1
          show bh.length + 1 ≤ ps'.length
          omega
        · rw [upd_same, List.map_append]
          rfl
        · refine awSnoc (F := fun l (row : List Nat) => upd H6 Mc (.lst (ls.map V.ref ++ [V.ref St])) l = some (.lst ((zs row).map V.int))) ?_ ?_
          · rw [upd_ne nSMc]
            exact eSt6
          · have key : ∀ {l' : List Addr} {b' : List (List Nat)}, (∀ l ∈ l', l ∈ ls) → NmAt H4 l' b' → NmAt (upd H6 Mc (.lst (ls.map V.ref ++ [V.ref St]))) l' b' := by
              intro l' b' hin hh
              induction hh with
              | nil => exact .nil
              | cons h t ih =>
                refine .cons ?_ (ih fun l hl => hin l (List.mem_cons_of_mem _ hl))
                obtain ⟨n1, n2, n3, n4⟩ := lsne _ (hin _ List.mem_cons_self)
                rw [upd_ne n4]
                exact st _ _ n1 n2 n3 (nSls _ (hin _ List.mem_cons_self)) (s45 _ _ h)
            exact key (fun _ z => z) hbh
        · rcases List.mem_append.mp hl with hl | hl
          · exact lsne l hl
          · rw [List.mem_singleton.mp hl]
            exact ⟨nSM, nSN, nSW, nSMc⟩
        · intro b u e
          have e5 := s25 _ _ e
          rw [upd_ne (ne_of_none e hMc2)]
          exact st b u (ne_of_none e hM2) (ne_of_none e hN2) (ne_of_none e hW2) (ne_of_none e hSt2) e5
    · have nlt : ¬ bh.length < ps.length := fun z => e (by
        apply decide_eq_true
        rw [List.length_map, List.length_map]
        omega)
      exact ⟨.ref Mc, rfl, q H4 Mc ls l1 l2 S1 S2 ps bh (s02.trans s4) (s02.free hMc2) eMc hbh sm1 sm2 ag gd (by omega) fw⟩
/-! ### rows, as numbers -/
structure Rw where
  m : Int
  ds : List Deed
  o : Int
abbrev RwAt (H : Hp) (a : Addr) (r : Rw) : Prop := RowAt H a r.m r.ds r.o
abbrev RwsAt (H : Hp) : List Addr → List Rw → Prop := Paired (RwAt H)
abbrev RwOk (r : Rw) : Prop := RowOk r.m r.ds r.o
theorem stayRws {H H' : Hp} (t : TupsStay H H') {as : List Addr} {rws : List Rw} (h : RwsAt H as rws) : RwsAt H' as rws := awMap (fun _ _ e => t.row e) h
theorem awAt0 {as : List Addr} {a : Addr} {l : List Addr} (h : as = a :: l) : atI (as.map V.ref) 0 = some (.ref a) := by
  subst h
  exact atI_nat (j := 0) rfl
theorem row0 {m o : Int} {D : Addr} : atI [V.int m, .ref D, .int o] 0 = some (.int m) := atI_nat (j := 0) rfl
def rLen (K : PySem.W.Frag) : List V → Hp → VK → Prop := fun xs H Q => ∃ p ys, xs = [.ref p] ∧ (SqL K H p ys ∨ SqT K H p ys) ∧ Q (.int ys.length) H
/-! ### refusals raised -/
theorem app_len (x y : Str) : (x ++ y).length = x.length + y.length := by
  rw [TL.len_tl, TL.tl_append, List.length_append, ← TL.len_tl, ← TL.len_tl]
theorem js_len {acc y : Str} {a b : Nat} (h1 : acc.length ≤ a) (h2 : y.length ≤ b) (h : a + b ≤ 1000) : (acc ++ y).length ≤ sizeLine ∧ (acc ++ y).length ≤ a + b := by
  rw [app_len, sizeLine_eq]
  omega
theorem iX_len {i : Int} (h : i.natAbs < 10 ^ 3) : (Str.ofString (toString i)).length ≤ 4 := by
  rw [PySem.ofString_length]
  exact int_text_length_le10 (k := 3) (by decide) h
theorem log_small {i : Int} (h : i.natAbs < 1000) : i.natAbs.log2 < 1920 := by
  by_cases e : i.natAbs = 0
  · rw [e]; decide
  · have := (Nat.log2_lt (k := 10) e).mpr (Nat.lt_trans h (by decide))
    omega
theorem neT {x y : Int} (h : (!decide (V.int x = V.int y)) = true) : ¬ x = y := fun e => by
  rw [decide_eq_true (congrArg V.int e)] at h
  cases h
theorem neF {x y : Int} (h : ¬ (!decide (V.int x = V.int y)) = true) : x = y := by
  by_cases e : x = y
  · exact e
  · exfalso
    apply h
    rw [decide_eq_false (fun z => e (V.int.inj z))]
    rfl
/-- a class of the program whose instances are raised -/
structure Rai (K : PySem.W.Frag) (mg : Str → Option Value) (x : Str) (C : Addr) : Prop where
  q : PySem.W.excIn K C [.type "ValueError", .type "Exception", .type "BaseException", .type "object"] "ValueError.__new__" = true
  g : mg x = some (.ref C)
  k : PySem.W.keepIn K (.ref C) = true
  s : PySem.W.subIn K (.ref C) (.type "BaseException") = some true
  t : PySem.W.typeIn K (.ref C) = some (.type "type")
/-! ### check_pair, how_often -/
def spCp (cP : Addr) : Sp := fun vs H Q E => ∃ (R1 R2 : Addr) (m1 m2 o1 o2 : Int) (ds1 ds2 : List Deed), vs = [.ref R1, .ref R2] ∧ RowAt H R1 m1 ds1 o1 ∧ RowAt H R2 m2 ds2 o2 ∧ RowOk m1 ds1 o1 ∧ RowOk m2 ds2 o2 ∧
  (m1 = m2 → Q .non H) ∧ (¬ m1 = m2 → E (.ref cP) none H)
theorem ok_cp {f cP : Addr} {fd : FuncData} {k : Nat} (F : Fun K "check_pair" "check_pair" s_check_pair f fd) (rP : Rai K mg "NoPair" cP) : FnOk P w K mg base (L2.CX P w) (k + 1) f fd ["row", "other"] (spCp cP) := by
  refine F.okX sc_check_pair (fun vs H Q E h => ?_) (fun cdv A outer s H vs Q E hr h => ?_)
  · obtain ⟨R1, R2, m1, m2, o1, o2, ds1, ds2, rfl, _⟩ := h
    rfl
  · obtain ⟨R1, R2, m1, m2, o1, o2, ds1, ds2, rfl, hr1, hr2, ok1, ok2, q, qE⟩ := h
    obtain ⟨D1, rs1, e1, _, _⟩ := id hr1
    obtain ⟨D2, rs2, e2, _, _⟩ := id hr2
    refine ⟨_, pss_one (ps_if (pt_cmpR op_ne (pe_ix ix_tup (pv 0) pe_int (fun _ _ => rfl)) (pe_ix ix_tup (pv 1) pe_int (fun _ _ => rfl)) (nomark _))
        (pss_one (ps_raise rfl (takes_of rfl rfl rfl rfl) (SkE.pmk_own1 PySem.F.excBase_ValueError rP.q rP.g rP.k (raises_own rP.s rP.t) (by rfl) (pe_joined (.cons pe_str (.cons (pe_fmt (pe_ix ix_tup (pv 0) pe_int (fun _ _ => rfl))) (.cons pe_str (.cons (pe_fmt (pe_ix ix_tup (pv 1) pe_int (fun _ _ => rfl))) (.cons pe_str .nil))))))))) pss_nil), ?_⟩
    have a1 := ok1.m1
    have a3 := ok1.m3
    have b1 := ok2.m1
    have b3 := ok2.m3
    refine ⟨.ref R1, rfl, R1, _, 0, .int m1, rfl, rfl, SqT.of e1, row0, .ref R2, rfl, R2, _, 0, .int m2, rfl, rfl, SqT.of e2, row0, ⟨rfl, _, rfl, ite2 (fun hne => ?_) (fun heq => ?_)⟩⟩
    · have l1 : m1.natAbs < 1000 := by omega
      have l2 : m2.natAbs < 1000 := by omega
      have j0 := js_len (acc := Str.empty) (y := "rows of ") (a := 0) (b := 8) (by decide) (by decide +kernel) (by decide)
      have j1 := js_len j0.2 (b := 4) (iX_len l1) (by decide)
      have j2 := js_len (y := " and of ") j1.2 (b := 8) (by decide +kernel) (by decide)
      have j3 := js_len j2.2 (b := 4) (iX_len l2) (by decide)
      have j4 := js_len (y := " inputs") j3.2 (b := 7) (by decide +kernel) (by decide)
      exact ⟨_, rfl, j0.1, .ref R1, rfl, R1, _, 0, .int m1, rfl, rfl, SqT.of e1, row0, .inr ⟨m1, rfl, log_small l1, _, rfl, j1.1, _, rfl, j2.1, .ref R2, rfl, R2, _, 0, .int m2, rfl, rfl, SqT.of e2, row0, .inr ⟨m2, rfl, log_small l2, _, rfl, j3.1, _, rfl, j4.1, qE (neT hne)⟩⟩⟩
    · exact q (neF heq)
def agN (bh : List (List Nat)) : Nat → List Nat
  | 0 => List.replicate bh.length 1
  | n + 1 => bh.map fun row => (row.map fun i => (agN bh n).getD i 0).sum
theorem agN_len (bh : List (List Nat)) : ∀ n, (agN bh n).length = bh.length
  | 0 => List.length_replicate
  | n + 1 => List.length_map ..
theorem sum_zs : ∀ l : List Nat, (zs l).sum = ((l.sum : Nat) : Int)
  | [] => rfl
  | x :: l => by
    show (x : Int) + (zs l).sum = _
    rw [sum_zs l, List.sum_cons]
    omega
def spHo (cP : Addr) : Sp := fun vs H Q E => ∃ (R1 R2 : Addr) (m1 m2 : Nat) (o1 o2 : Int) (ds1 ds2 : List Deed) (wd : Nat), vs = [.ref R1, .ref R2, .int (wd : Int)] ∧ RowAt H R1 m1 ds1 o1 ∧ RowAt H R2 m2 ds2 o2 ∧ RowOk m1 ds1 o1 ∧ RowOk m2 ds2 o2 ∧ wd ≤ 60 ∧
  (m1 = m2 → ∀ H' l1 l2 S1 S2 ps bh, Same H H' → Sim m1 ds1 o1 l1 S1 → Sim m1 ds2 o2 l2 S2 → AgOk l1 l2 ps bh → (∀ p ∈ ps, (∃ c, S1 c p.1) ∧ ∃ c, S2 c p.2) → bh.length = ps.length → Q (.int (((agN bh wd).getD 0 0 : Nat) : Int)) H') ∧ (¬ m1 = m2 → ∀ H', Same H H' → E (.ref cP) none H')
abbrev scHa : Scope := ⟨.function, [(".0", .local), ("numbers", .local), ("sum", .globalImplicit), ("counts", .cell)], false, false, []⟩
abbrev scHb : Scope := ⟨.function, [(".0", .local), ("number", .local), ("counts", .free)], false, false, []⟩
set_option maxHeartbeats 4000000 in
theorem ok_ho {f fC fA cP : Addr} {fd fdC fdA : FuncData} {k : Nat} (F : Fun K "how_often" "how_often" s_how_often f fd)
    (GC : FnOk P w K mg base (L2.CX P w) (k + 1) fC fdC ["row", "other"] (spCp cP)) (kC' : PySem.W.keepIn K (.ref fC) = true) (bC : Binds K fdC ["row", "other"] []) (gC : mg "check_pair" = some (.ref fC))
    (GA : FnOk P w K mg base CX0 (k + 7) fA fdA ["row", "other"] spAg) (kA : PySem.W.keepIn K (.ref fA) = true) (bA : Binds K fdA ["row", "other"] []) (gA : mg "agreeing" = some (.ref fA))
    (mn : mg "len" = none) (mr : mg "range" = none) (ms : mg "sum" = none) : FnOk P w K mg base (L2.CX P w) (k + 8) f fd ["row", "other", "width"] (spHo cP) := by
  refine F.okX sc_how_often (fun vs H Q E h => ?_) (fun cdv A outer s H vs Q E hr h => ?_)
  · obtain ⟨R1, R2, m1, m2, o1, o2, ds1, ds2, wd, rfl, _⟩ := h
    rfl
  · obtain ⟨R1, R2, m1, m2, o1, o2, ds1, ds2, wd, rfl, hr1, hr2, ok1, ok2, hw, q, qE⟩ := h
    have r1 := hr.mono (show k + 1 ≤ k + 7 by omega)
    refine ⟨_, pss_cons (ps_expr (pe_callS GC r1 (by rfl) gC kC' bC (fun σ => passAt (takes_of rfl rfl rfl rfl) σ) (pa_cons (pv 0) (pa_cons (pv 1) pa_nil))))
      (pss_cons (ps_set (i := 3) sc_how_often.nd rfl (.inl rfl) (pe_call GA hr (by rfl) gA kA bA .nil pass0 (pa_cons (pv 0) (pa_cons (pv 1) pa_nil))))
      (pss_cons (ps_set (i := 4) sc_how_often.nd rfl (.inr rfl) (pe_op op_rep (pe_lst (pa_cons pe_int pa_nil)) (pe_callB call_len_seq (by rfl) mn PySem.boot_len (pa_cons (pv 3) pa_nil))))
      (pss_cons (ps_for (passes_of rfl) rfl (pi_range1 (by rfl) mr (pa_cons (pv 2) pa_nil)) (pg_name (i := 5) sc_how_often.nd rfl (.inl rfl))
        (pss_one (ps_set (i := 4) sc_how_often.nd rfl (.inr rfl) (pe_lc (own := [("numbers", 7)]) (g := gName 7) (by rfl) sc_how_often.nd (pi_list (pv 3)) (blkOk_by (own := [("numbers", 7)]) (N := N_how_often) (sc := defScope s_how_often) (by decide +kernel))
          (fun _ _ _ _ _ => pg_name (i := 7) sc_how_often.nd rfl (Or.inl rfl)) (fun _ _ _ _ _ => pts_nil)
          (fun _ _ _ _ _ => pe_callB (id := "sum") (r := rSum K) (cr_sum rfl) (by rfl) ms (by decide +kernel) (pa_cons
            (pe_lc (wi := iList K (tVar 7)) (own := [("number", 6)]) (g := gName 6) (by rfl) sc_how_often.nd (pi_list (pv 7)) (by exact blkOk_by (own := [("number", 6)]) (N := N_how_often) (sc := scHa) (scope := scHb) (by decide +kernel))
              (fun _ _ _ _ _ => pg_name (i := 6) sc_how_often.nd rfl (Or.inl rfl)) (fun _ _ _ _ _ => pts_nil)
              (fun _ _ _ _ _ => pe_ix (r := rIxL K) ix_list (pv 4) (pv 6) (fun _ _ => rfl))) pa_nil))))))
      (pss_one (ps_ret (pe_ix ix_list (pv 4) pe_int (fun _ _ => rfl))))))), ?_⟩
    refine ⟨.ref R1, rfl, .ref R2, rfl, R1, R2, m1, m2, o1, o2, ds1, ds2, rfl, hr1, hr2, ok1, ok2, fun em => ?_, fun ne => qE (fun z => ne (congrArg Int.ofNat z)) H (Same.refl H)⟩
    obtain rfl : m1 = m2 := Int.ofNat.inj em
    have m3 := ok1.m3
    refine ⟨.ref R1, rfl, .ref R2, rfl, R1, R2, m1, o1, o2, ds1, ds2, rfl, hr1, ok1, hr2, ok2, fun H1 Bh ls l1 l2 S1 S2 ps bh s1 nB eB hB sm1 sm2 ag gd hl hfew => ?_⟩
    have p8 : 2 ^ m1 ≤ 8 := Nat.le_trans (Nat.pow_le_pow_right (by decide) (show m1 ≤ 3 by omega)) (by decide)
    have rowl : ∀ (j : Nat) row, bh[j]? = some row → row.length ≤ 8 ∧ ∀ n ∈ row, n < bh.length := fun j row hj => by
      obtain ⟨p, r1, r2, h1, h2, h3, h4⟩ := ag.each j row hj
      obtain ⟨⟨c1, hS1⟩, _⟩ := gd p (List.mem_of_getElem? h1)
      obtain ⟨row1, g1, pd1⟩ := sm1.2 _ _ hS1
      rw [h2] at g1
      obtain rfl := Option.some.inj g1
      refine ⟨?_, fun n hn => ?_⟩
      · have a1 := awLen h4
        have a2 := List.length_filter_le agB (r1.zip r2)
        have a3 : (r1.zip r2).length ≤ r1.length := by rw [List.length_zip]; omega
        have a4 : r1.length = 2 ^ m1 := by rw [awLen pd1, stp_len]
        have a5 : (agr r1 r2).length = ((r1.zip r2).filter agB).length := rfl
        omega
      · obtain ⟨i, hi⟩ := List.mem_iff_getElem?.mp hn
        obtain ⟨e, _, a, b, _, _, hz⟩ := awGet h4 hi
        rw [hl]
        exact (List.getElem?_eq_some_iff.mp hz).1
    have lsl := awLen hB
    have b1 : 1 ≤ bh.length := by
      rw [hl]
      have := (List.getElem?_eq_some_iff.mp ag.first).1
      omega
    refine ⟨(by show 1 ≤ sizeLine; decide), fun I hI => ?_⟩
    have sI := same_new (o := .lst [.int 1]) hI
    have elen : (((ls.map V.ref).length : Nat) : Int) = ((bh.length : Nat) : Int) := by rw [List.length_map, lsl]
    refine ⟨.ref Bh, rfl, Bh, _, rfl, .inl (.inl (.inl (sI _ _ eB))), I, _, _, rfl, rfl, upd_same, ?_, ?_, ?_, fun C hC => ?_⟩
    · rw [elen]
      omega
    · rw [elen]
      omega
    · rw [elen]
      show 1 * ((bh.length : Nat) : Int).toNat ≤ sizeLine
      rw [sizeLine_eq]
      omega
    have erep : (List.replicate (((ls.map V.ref).length : Nat) : Int).toNat [V.int 1]).flatten = (zs (agN bh 0)).map V.int := by
      rw [elen]
      show (List.replicate bh.length [V.int 1]).flatten = ((List.replicate bh.length 1).map Int.ofNat).map V.int
      generalize bh.length = n
      induction n with
      | zero => rfl
      | succ n ih => rw [List.replicate_succ, List.flatten_cons, ih, List.replicate_succ]; rfl
    rw [erep]
    have sC := same_new (o := .lst ((zs (agN bh 0)).map V.int)) hC
    refine ⟨.int (wd : Int), rfl, (wd : Int), rfl, by omega, by omega, for_range (lo := 0) (n := ((wd : Int)).toNat) (fun i σ H3 => ∃ y5 C, σ = [some (.ref R1), some (.ref R2), some (.int (wd : Int)), some (.ref Bh), some (.ref C), y5, none, none] ∧ H3 C = some (.lst ((zs (agN bh i)).map V.int)) ∧ Same H1 H3) ⟨none, C, rfl, upd_same, sI.trans sC⟩ (fun i σ H3 hi h3 => ?_) (fun σ H3 h3 => ?_)⟩
    · obtain ⟨y5, C, rfl, eC, s3⟩ := h3
      have eB3 := s3 _ _ eB
      refine ⟨.ref Bh, rfl, Bh, rfl, ⟨_, .inl (.inl eB3)⟩, fun L hL => ?_⟩
      refine lc_list (K := K) (a := Bh) (xs := ls.map V.ref) (fun j H4 => H4 L = some (.lst ((zs ((bh.take j).map fun row => (row.map fun i' => (agN bh i).getD i' 0).sum)).map V.int)) ∧ Same H3 H4) ⟨upd_same, same_new hL⟩ (fun j H4 _ h4 => .inl (.inl (h4.2 _ _ eB3))) (fun j x H4 hx h4 => ?_) (fun H4 h4 => ?_)
      · obtain ⟨eL, s4⟩ := h4
        have hj := (List.getElem?_eq_some_iff.mp hx).1
        rw [List.length_map] at hj
        rw [List.getElem?_map] at hx
        obtain ⟨la, hla, rfl⟩ := Option.map_eq_some_iff.mp hx
        obtain ⟨row, hrw, hra⟩ := awGet hB hla
        have hra' : H1 la = some (.lst ((zs row).map V.int)) := hra
        obtain ⟨rl8, rin⟩ := rowl j row hrw
        have ea4 := s4 _ _ (s3 _ _ hra')
        have eC4 := s4 _ _ eC
        refine ⟨rfl, .ref la, rfl, la, rfl, ⟨_, .inl (.inl ea4)⟩, fun L2' hL2' => ?_⟩
        refine lc_list (K := K) (a := la) (xs := (zs row).map V.int) (fun u H5 => H5 L2' = some (.lst ((zs ((row.take u).map fun i' => (agN bh i).getD i' 0)).map V.int)) ∧ Same H4 H5) ⟨upd_same, same_new hL2'⟩ (fun u H5 _ h5 => .inl (.inl (h5.2 _ _ ea4))) (fun u x H5 hx h5 => ?_) (fun H5 h5 => ?_)
        · obtain ⟨eL5, s5⟩ := h5
          have hu := (List.getElem?_eq_some_iff.mp hx).1
          rw [List.length_map, List.length_map] at hu
          have hx' : (row.map fun n => V.int (Int.ofNat n))[u]? = some x := by
            rw [← hx, List.map_map]
            rfl
          rw [List.getElem?_map] at hx'
          obtain ⟨ix, hix, rfl⟩ := Option.map_eq_some_iff.mp hx'
          have hlt := rin ix (List.mem_of_getElem? hix)
          have al := agN_len bh i
          have hat : atI ((zs (agN bh i)).map V.int) (Int.ofNat ix) = some (.int (((agN bh i).getD ix 0 : Nat) : Int)) := by
            refine atI_nat (j := ix) ?_
            show (((agN bh i).map Int.ofNat).map V.int)[ix]? = _
            rw [List.getElem?_map, List.getElem?_map, List.getD_eq_getElem?_getD, List.getElem?_eq_getElem (by omega)]
            rfl
          refine ⟨rfl, .ref C, rfl, .int (Int.ofNat ix), rfl, C, _, Int.ofNat ix, _, rfl, rfl, .inl (.inl (s5 _ _ eC4)), hat, _, eL5, ?_, ?_, ?_⟩
          · rw [List.length_map, List.length_map, List.length_map, List.length_take]
            exact small1000 (by omega)
          · rw [upd_same, List.take_add_one, hix]
            show _ = some (HO.lst ((((row.take u ++ [ix]).map fun i' => (agN bh i).getD i' 0).map Int.ofNat).map V.int))
            rw [List.map_append, List.map_append, List.map_append]
            rfl
          · intro b v e
            rw [upd_ne (ne_of_none e hL2')]
            exact s5 _ _ e
        · obtain ⟨eL5, s5⟩ := h5
          rw [List.length_map, List.length_map, List.take_length] at eL5
          refine ⟨L2', _, rfl, .inl (.inl eL5), ?_⟩
          rw [sum_zs]
          refine ⟨_, s5 _ _ eL, ?_, ?_, ?_⟩
          · rw [List.length_map, List.length_map, List.length_map, List.length_take, sizeLine_eq]
            omega
          · rw [upd_same, List.take_add_one, hrw]
            show _ = some (HO.lst ((((bh.take j ++ [row]).map fun row => (row.map fun i' => (agN bh i).getD i' 0).sum).map Int.ofNat).map V.int))
            rw [List.map_append, List.map_append, List.map_append]
            rfl
          · intro b v e
            rw [upd_ne (ne_of_none e hL)]
            exact s5 _ _ (s4 _ _ e)
      · obtain ⟨eL, s4⟩ := h4
        rw [List.length_map, lsl, List.take_length] at eL
        exact ⟨_, L, rfl, eL, s3.trans s4⟩
    · obtain ⟨y5, C, rfl, eC, s3⟩ := h3
      have al := agN_len bh wd
      rw [Int.toNat_natCast] at eC
      have hat : atI ((zs (agN bh wd)).map V.int) 0 = some (.int (((agN bh wd).getD 0 0 : Nat) : Int)) := by
        refine atI_nat (j := 0) ?_
        show (((agN bh wd).map Int.ofNat).map V.int)[0]? = _
        rw [List.getElem?_map, List.getElem?_map, List.getD_eq_getElem?_getD, List.getElem?_eq_getElem (by omega)]
        rfl
      exact ⟨.ref C, rfl, C, _, 0, _, rfl, rfl, .inl (.inl eC), hat, q rfl H3 l1 l2 S1 S2 ps bh (s1.trans s3) sm1 sm2 ag gd hl⟩
/-! ### by how many choices two rows agree -/
def ob (ds : List Deed) (o : Int) (c bs : List Int) : Int := (bts ds c bs).getD o.toNat 0
def nc (ds : List Deed) (c bs : List Int) : List Int := nxt ds c (bts ds c bs)
def cnt (m : Nat) (ds1 : List Deed) (o1 : Int) (ds2 : List Deed) (o2 : Int) : Nat → List Int → List Int → Nat
  | 0, _, _ => 1
  | n + 1, c1, c2 => ((allB m).map fun bs => if ob ds1 o1 c1 bs = ob ds2 o2 c2 bs then cnt m ds1 o1 ds2 o2 n (nc ds1 c1 bs) (nc ds2 c2 bs) else 0).sum
theorem rows_sum {S1 S2 : List Int → Nat → Prop} {ps : List (Nat × Nat)} {g : Nat → Nat} {h : List Int → List Int → Nat} (hg : ∀ n a b s1 s2, ps[n]? = some (a, b) → S1 s1 a → S2 s2 b → g n = h s1 s2) {f1 f2 : List Int → Int × List Int} :
    ∀ (L : List (List Int)) (r1 r2 : MRow) (row : List Nat), Paired (fun (e : Int × Int) (s : Int × List Int) => e.1 = s.1 ∧ ∃ j : Nat, e.2 = (j : Int) ∧ S1 s.2 j) r1 (L.map f1) → Paired (fun (e : Int × Int) (s : Int × List Int) => e.1 = s.1 ∧ ∃ j : Nat, e.2 = (j : Int) ∧ S2 s.2 j) r2 (L.map f2) → NumsOf ps row (agr r1 r2) →
      (row.map g).sum = (L.map fun bs => if (f1 bs).1 = (f2 bs).1 then h (f1 bs).2 (f2 bs).2 else 0).sum
  | [], [], r2, row, _, _, hn => by
    have hn' : NumsOf ps row [] := hn
    cases hn'
    rfl
  | [], _ :: _, _, _, h1, _, _ => by cases h1
  | _ :: _, [], _, _, h1, _, _ => by cases h1
  | _ :: _, _ :: _, [], _, _, h2, _ => by cases h2
  | bs :: L, e1 :: r1, e2 :: r2, row, h1, h2, hn => by
    cases h1 with
    | cons a1 t1 =>
      cases h2 with
      | cons a2 t2 =>
        obtain ⟨q1, j1, x1, y1⟩ := a1
        obtain ⟨q2, j2, x2, y2⟩ := a2
        rw [List.map_cons, List.sum_cons]
        have hn' : NumsOf ps row (((e1, e2) :: r1.zip r2).filter agB) := hn
        by_cases hb : e1.1 = e2.1
        · rw [List.filter_cons, if_pos (show agB (e1, e2) = true from decide_eq_true hb)] at hn'
          cases hn' with
          | cons hh tt =>
            rename_i n row
            obtain ⟨a, b, u1, u2, u3⟩ := hh
            have ea : a = j1 := Int.ofNat.inj (u1.symm.trans x1)
            have eb : b = j2 := Int.ofNat.inj (u2.symm.trans x2)
            subst ea eb
            rw [if_pos (by rw [← q1, ← q2]; exact hb), List.map_cons, List.sum_cons, rows_sum hg L r1 r2 row t1 t2 tt, hg n a b _ _ u3 y1 y2]
        · rw [List.filter_cons, if_neg (by rw [show agB (e1, e2) = false from decide_eq_false hb]; exact Bool.false_ne_true)] at hn'
          rw [if_neg (by rw [← q1, ← q2]; exact hb), Nat.zero_add]
          exact rows_sum hg L r1 r2 row t1 t2 hn'
theorem ag_cnt {m : Nat} {ds1 ds2 : List Deed} {o1 o2 : Int} {l1 l2 : List MRow} {S1 S2 : List Int → Nat → Prop} {ps : List (Nat × Nat)} {bh : List (List Nat)} (sm1 : Sim m ds1 o1 l1 S1) (sm2 : Sim m ds2 o2 l2 S2) (ag : AgOk l1 l2 ps bh) (hl : bh.length = ps.length) :
    ∀ (n i a b : Nat) (c1 c2 : List Int), ps[i]? = some (a, b) → S1 c1 a → S2 c2 b → (agN bh n).getD i 0 = cnt m ds1 o1 ds2 o2 n c1 c2
  | 0, i, a, b, c1, c2, hi, _, _ => by
    have := (List.getElem?_eq_some_iff.mp hi).1
    show (List.replicate bh.length 1).getD i 0 = 1
    rw [List.getD_eq_getElem?_getD, List.getElem?_replicate, if_pos (by omega)]
    rfl
  | n + 1, i, a, b, c1, c2, hi, h1, h2 => by
    have hil := (List.getElem?_eq_some_iff.mp hi).1
    have hib : i < bh.length := by omega
    obtain ⟨p, r1, r2, g1, g2, g3, g4⟩ := ag.each i _ (List.getElem?_eq_getElem hib)
    rw [hi] at g1
    obtain rfl := Option.some.inj g1
    obtain ⟨row1, k1, pd1⟩ := sm1.2 _ _ h1
    obtain ⟨row2, k2, pd2⟩ := sm2.2 _ _ h2
    rw [g2] at k1
    obtain rfl := Option.some.inj k1
    rw [g3] at k2
    obtain rfl := Option.some.inj k2
    have e : (agN bh (n + 1)).getD i 0 = ((bh[i]).map fun i => (agN bh n).getD i 0).sum := by
      show (bh.map _).getD i 0 = _
      rw [List.getD_eq_getElem?_getD, List.getElem?_map, List.getElem?_eq_getElem hib]
      rfl
    rw [e]
    exact rows_sum (S1 := S1) (S2 := S2) (ps := ps) (h := cnt m ds1 o1 ds2 o2 n) (fun k a b s1 s2 hk y1 y2 => ag_cnt sm1 sm2 ag hl n k a b s1 s2 hk y1 y2) (allB m) r1 r2 bh[i] pd1 pd2 g4
/-! ### all words -/
def wsum (t : Nat) : Nat → (List Int → Nat) → Nat
  | 0, f => f []
  | m + 1, f => ((List.range t).map fun (x : Nat) => wsum t m fun r => f ((x : Int) :: r)).sum
def comb (bs ys : List Int) : List Int := List.zipWith (fun b y => b + 2 * y) bs ys
theorem wsum_congr {t : Nat} : ∀ {m : Nat} {f g : List Int → Nat}, (∀ xs, xs.length = m → (∀ x ∈ xs, 0 ≤ x ∧ x < (t : Int)) → f xs = g xs) → wsum t m f = wsum t m g
  | 0, f, g, h => h [] rfl (fun _ z => nomatch z)
  | m + 1, f, g, h => by
    unfold wsum
    congr 1
    refine List.map_congr_left fun x hx => wsum_congr fun xs hl hb => h _ (by rw [List.length_cons, hl]) fun y hy => ?_
    rcases List.mem_cons.mp hy with rfl | hy
    · have := List.mem_range.mp hx
      omega
    · exact hb y hy
theorem sum_add {α : Type} (f g : α → Nat) : ∀ l : List α, (l.map fun x => f x + g x).sum = (l.map f).sum + (l.map g).sum
  | [] => rfl
  | x :: l => by
    rw [List.map_cons, List.map_cons, List.map_cons, List.sum_cons, List.sum_cons, List.sum_cons, sum_add f g l]
    omega
theorem sum_swap {α β : Type} (f : α → β → Nat) : ∀ (l : List α) (k : List β), (l.map fun x => (k.map fun y => f x y).sum).sum = (k.map fun y => (l.map fun x => f x y).sum).sum
  | [], k => by
    rw [List.map_nil, List.sum_nil]
    induction k with
    | nil => rfl
    | cons y k ih => rw [List.map_cons, List.sum_cons, ← ih]; rfl
  | x :: l, k => by
    rw [List.map_cons, List.sum_cons, sum_swap f l k, ← sum_add]
    rfl
theorem wsum_sum {α : Type} (t : Nat) (L : List α) : ∀ (m : Nat) (f : α → List Int → Nat), wsum t m (fun xs => (L.map fun a => f a xs).sum) = (L.map fun a => wsum t m (f a)).sum
  | 0, _ => rfl
  | m + 1, f => by
    show ((List.range t).map fun (x : Nat) => wsum t m fun r => (L.map fun a => f a ((x : Int) :: r)).sum).sum = _
    have : (fun (x : Nat) => wsum t m fun r => (L.map fun a => f a ((x : Int) :: r)).sum) = fun (x : Nat) => (L.map fun a => wsum t m fun r => f a ((x : Int) :: r)).sum := funext fun x => wsum_sum t L m fun a r => f a ((x : Int) :: r)
    rw [this, sum_swap]
    rfl
theorem range_two (g : Nat → Nat) : ∀ t : Nat, ((List.range (2 * t)).map g).sum = ((List.range t).map fun y => g (2 * y) + g (2 * y + 1)).sum
  | 0 => rfl
  | t + 1 => by
    have e : 2 * (t + 1) = 2 * t + 1 + 1 := by omega
    rw [e, List.range_succ, List.range_succ, List.range_succ, List.map_append, List.map_append, List.map_append, List.sum_append, List.sum_append, List.sum_append, range_two g t]
    simp
    omega
theorem ext2_sum (g : List Int → Nat) : ∀ l : List (List Int), ((ext2 l).map g).sum = (l.map fun b => g (b ++ [0]) + g (b ++ [1])).sum
  | [] => rfl
  | b :: l => by
    show ((([b ++ [0], b ++ [1]] : List (List Int)) ++ ext2 l).map g).sum = _
    rw [List.map_append, List.sum_append, ext2_sum g l, List.map_cons, List.sum_cons]
    simp
theorem allB_front : ∀ (m : Nat) (g : List Int → Nat), ((allB (m + 1)).map g).sum = ((allB m).map fun bs => g (0 :: bs) + g (1 :: bs)).sum
  | 0, g => by
    show ((ext2 [[]]).map g).sum = _
    rw [ext2_sum]
    rfl
  | m + 1, g => by
    have e : allB (m + 1 + 1) = ext2 (allB (m + 1)) := rfl
    rw [e, ext2_sum, allB_front m, show allB (m + 1) = ext2 (allB m) from rfl, ext2_sum]
    congr 1
    refine List.map_congr_left fun bs _ => ?_
    show g (0 :: (bs ++ [0])) + g (0 :: (bs ++ [1])) + (g (1 :: (bs ++ [0])) + g (1 :: (bs ++ [1]))) = g (0 :: (bs ++ [0])) + g (1 :: (bs ++ [0])) + (g (0 :: (bs ++ [1])) + g (1 :: (bs ++ [1])))
    omega
theorem wsum_two (t : Nat) : ∀ (m : Nat) (f : List Int → Nat), wsum (2 * t) m f = ((allB m).map fun bs => wsum t m fun ys => f (comb bs ys)).sum
  | 0, f => by
    show f [] = ([[]].map fun bs => wsum t 0 fun ys => f (comb bs ys)).sum
    simp [wsum, comb]
  | m + 1, f => by
    rw [allB_front]
    show ((List.range (2 * t)).map fun (x : Nat) => wsum (2 * t) m fun r => f ((x : Int) :: r)).sum = _
    rw [range_two]
    have e1 : ∀ x : Nat, wsum (2 * t) m (fun r => f ((x : Int) :: r)) = ((allB m).map fun bs => wsum t m fun ys => f ((x : Int) :: comb bs ys)).sum := fun x => wsum_two t m fun r => f ((x : Int) :: r)
    have e2 : (fun (y : Nat) => wsum (2 * t) m (fun r => f (((2 * y : Nat) : Int) :: r)) + wsum (2 * t) m (fun r => f (((2 * y + 1 : Nat) : Int) :: r))) = fun (y : Nat) => ((allB m).map fun bs => (wsum t m fun ys => f (((2 * y : Nat) : Int) :: comb bs ys)) + wsum t m fun ys => f (((2 * y + 1 : Nat) : Int) :: comb bs ys)).sum := funext fun y => by
      rw [e1, e1, ← sum_add]
    rw [e2, sum_swap]
    congr 1
    refine List.map_congr_left fun bs _ => ?_
    show _ = ((List.range t).map fun (y : Nat) => wsum t m fun r => f (comb (0 :: bs) ((y : Int) :: r))).sum + ((List.range t).map fun (y : Nat) => wsum t m fun r => f (comb (1 :: bs) ((y : Int) :: r))).sum
    rw [← sum_add]
    congr 1
    refine List.map_congr_left fun y _ => ?_
    have a0 : ((2 * y : Nat) : Int) = 0 + 2 * (y : Int) := by omega
    have a1 : ((2 * y + 1 : Nat) : Int) = 1 + 2 * (y : Int) := by omega
    rw [a0, a1]
    rfl
theorem wsum_one : ∀ m : Nat, wsum 1 m (fun _ => 1) = 1
  | 0 => rfl
  | m + 1 => by
    show ((List.range 1).map fun (_ : Nat) => wsum 1 m fun _ => 1).sum = 1
    rw [wsum_one m]
    rfl
theorem wsum_zero (t : Nat) : ∀ m : Nat, wsum t m (fun _ => 0) = 0
  | 0 => rfl
  | m + 1 => by
    show ((List.range t).map fun (_ : Nat) => wsum t m fun _ => 0).sum = 0
    rw [wsum_zero t m, List.map_const', List.sum_replicate_nat, Nat.mul_zero]
def agW (ds1 : List Deed) (o1 : Int) (ds2 : List Deed) (o2 : Int) : Nat → List Int → List Int → List Int → Bool
  | 0, _, _, _ => true
  | n + 1, c1, c2, xs => decide (ob ds1 o1 c1 (xs.map (· % 2)) = ob ds2 o2 c2 (xs.map (· % 2))) && agW ds1 o1 ds2 o2 n (nc ds1 c1 (xs.map (· % 2))) (nc ds2 c2 (xs.map (· % 2))) (xs.map (· / 2))
theorem comb_mod : ∀ {bs ys : List Int}, bs.length = ys.length → (∀ x ∈ bs, Bit x) → (comb bs ys).map (· % 2) = bs ∧ (comb bs ys).map (· / 2) = ys
  | [], [], _, _ => ⟨rfl, rfl⟩
  | [], _ :: _, h, _ => by simp at h
  | _ :: _, [], h, _ => by simp at h
  | b :: bs, y :: ys, h, hb => by
    obtain ⟨h1, h2⟩ := comb_mod (bs := bs) (ys := ys) (by simpa using h) fun x hx => hb x (List.mem_cons_of_mem _ hx)
    have hbb := hb b List.mem_cons_self
    have e1 : (b + 2 * y) % 2 = b := by rcases hbb with rfl | rfl <;> omega
    have e2 : (b + 2 * y) / 2 = y := by rcases hbb with rfl | rfl <;> omega
    refine ⟨?_, ?_⟩
    · show (b + 2 * y) % 2 :: (comb bs ys).map (· % 2) = _
      rw [h1, e1]
    · show (b + 2 * y) / 2 :: (comb bs ys).map (· / 2) = _
      rw [h2, e2]
theorem cnt_wsum {m : Nat} {ds1 ds2 : List Deed} {o1 o2 : Int} : ∀ (n : Nat) (c1 c2 : List Int), cnt m ds1 o1 ds2 o2 n c1 c2 = wsum (2 ^ n) m fun xs => if agW ds1 o1 ds2 o2 n c1 c2 xs = true then 1 else 0
  | 0, c1, c2 => (wsum_one m).symm
  | n + 1, c1, c2 => by
    rw [Nat.pow_succ, Nat.mul_comm, wsum_two]
    show ((allB m).map _).sum = _
    congr 1
    refine List.map_congr_left fun bs hbs => ?_
    obtain ⟨bl, bb⟩ := allB_ok m bs hbs
    have e : ∀ ys : List Int, ys.length = m → (if agW ds1 o1 ds2 o2 (n + 1) c1 c2 (comb bs ys) = true then 1 else 0) = if ob ds1 o1 c1 bs = ob ds2 o2 c2 bs then (if agW ds1 o1 ds2 o2 n (nc ds1 c1 bs) (nc ds2 c2 bs) ys = true then 1 else 0) else 0 := fun ys hy => by
      obtain ⟨h1, h2⟩ := comb_mod (bs := bs) (ys := ys) (by rw [bl, hy]) bb
      show (if (decide (ob ds1 o1 c1 ((comb bs ys).map (· % 2)) = ob ds2 o2 c2 ((comb bs ys).map (· % 2))) && agW ds1 o1 ds2 o2 n (nc ds1 c1 ((comb bs ys).map (· % 2))) (nc ds2 c2 ((comb bs ys).map (· % 2))) ((comb bs ys).map (· / 2))) = true then 1 else 0) = _
      rw [h1, h2]
      by_cases hq : ob ds1 o1 c1 bs = ob ds2 o2 c2 bs
      · rw [decide_eq_true hq, Bool.true_and, if_pos hq]
      · rw [decide_eq_false hq, Bool.false_and, if_neg hq]
        rfl
    rw [wsum_congr (g := fun ys => if ob ds1 o1 c1 bs = ob ds2 o2 c2 bs then (if agW ds1 o1 ds2 o2 n (nc ds1 c1 bs) (nc ds2 c2 bs) ys = true then 1 else 0) else 0) fun ys hy _ => e ys hy]
    by_cases hq : ob ds1 o1 c1 bs = ob ds2 o2 c2 bs
    · rw [if_pos hq, cnt_wsum n]
      congr 1
      funext ys
      rw [if_pos hq]
    · rw [if_neg hq]
      have : (fun ys : List Int => if ob ds1 o1 c1 bs = ob ds2 o2 c2 bs then (if agW ds1 o1 ds2 o2 n (nc ds1 c1 bs) (nc ds2 c2 bs) ys = true then 1 else 0) else 0) = fun _ => 0 := funext fun ys => if_neg hq
      rw [this, wsum_zero]
theorem agW_bits {m w : Nat} {ds1 ds2 : List Deed} {o1 o2 : Int} {xs : List Int} (ok1 : DsOk m ds1) (ok2 : DsOk m ds2) (hm : xs.length = m) (m1 : 1 ≤ m) (hx : ∀ x ∈ xs, 0 ≤ x ∧ x < 2 ^ w) (p0 : 0 ≤ o1) (p1 : o1 < m + ds1.length) (q0 : 0 ≤ o2) (q1 : o2 < m + ds2.length) :
    ∀ (k t : Nat), t + k = w → (agW ds1 o1 ds2 o2 k (crry ds1 xs t) (crry ds2 xs t) (xs.map (· / 2 ^ t)) = true ↔ ∀ s, t ≤ s → s < w → bitA s ((vals (2 ^ w) ds1 xs).getD o1.toNat 0) = bitA s ((vals (2 ^ w) ds2 xs).getD o2.toNat 0))
  | 0, t, h => ⟨fun _ s h1 h2 => by omega, fun _ => rfl⟩
  | k + 1, t, h => by
    have eb : (xs.map (· / 2 ^ t)).map (· % 2) = xs.map (bitA t) := by
      rw [List.map_map]
      rfl
    have ed : (xs.map (· / 2 ^ t)).map (· / 2) = xs.map (· / 2 ^ (t + 1)) := by
      rw [List.map_map]
      refine List.map_congr_left fun x _ => ?_
      show x / 2 ^ t / 2 = x / 2 ^ (t + 1)
      rw [Int.ediv_ediv_of_nonneg (Int.le_of_lt (pw_pos t)), ← Int.pow_succ]
    have ob_of : ∀ {ds : List Deed} {o : Int}, DsOk m ds → 0 ≤ o → o < m + ds.length → ob ds o (crry ds xs t) (xs.map (bitA t)) = bitA t ((vals (2 ^ w) ds xs).getD o.toNat 0) := fun {ds o} ok o0 o1 => by
      have vl := vals_len (size := 2 ^ w) ds xs
      have ol : o.toNat < (vals (2 ^ w) ds xs).length := by
        rw [vl, hm]
        omega
      unfold ob
      rw [crry_bits ok hm m1 hx (by omega), List.getD_eq_getElem?_getD, List.getD_eq_getElem?_getD, List.getElem?_map, List.getElem?_eq_getElem ol]
      rfl
    show (decide (ob ds1 o1 (crry ds1 xs t) ((xs.map (· / 2 ^ t)).map (· % 2)) = ob ds2 o2 (crry ds2 xs t) ((xs.map (· / 2 ^ t)).map (· % 2))) && agW ds1 o1 ds2 o2 k (nc ds1 (crry ds1 xs t) ((xs.map (· / 2 ^ t)).map (· % 2))) (nc ds2 (crry ds2 xs t) ((xs.map (· / 2 ^ t)).map (· % 2))) ((xs.map (· / 2 ^ t)).map (· / 2))) = true ↔ _
    rw [eb, ed, ob_of ok1 p0 p1, ob_of ok2 q0 q1, Bool.and_eq_true]
    have ih := agW_bits ok1 ok2 hm m1 hx p0 p1 q0 q1 k (t + 1) (by omega)
    have e1 : nc ds1 (crry ds1 xs t) (xs.map (bitA t)) = crry ds1 xs (t + 1) := rfl
    have e2 : nc ds2 (crry ds2 xs t) (xs.map (bitA t)) = crry ds2 xs (t + 1) := rfl
    rw [e1, e2, ih]
    constructor
    · rintro ⟨h1, h2⟩ s hs1 hs2
      by_cases e : s = t
      · rw [e]
        exact of_decide_eq_true h1
      · exact h2 s (by omega) hs2
    · intro hh
      exact ⟨decide_eq_true (hh t (Nat.le_refl _) (by omega)), fun s hs1 hs2 => hh s (by omega) hs2⟩
theorem bits_eq {v u : Int} : ∀ (w : Nat), (∀ s, s < w → bitA s v = bitA s u) → v % 2 ^ w = u % 2 ^ w
  | 0, _ => by
    rw [Int.pow_zero, Int.emod_one, Int.emod_one]
  | w + 1, h => by
    have ih := bits_eq w fun s hs => h s (by omega)
    have hb := h w (by omega)
    have e1 := low_next v (pw_pos w)
    have e2 := low_next u (pw_pos w)
    rw [Int.mul_comm 2, ← Int.pow_succ] at e1 e2
    unfold bitA at hb
    rw [e1, e2, ih, hb]
theorem agW_worth {m w : Nat} {ds1 ds2 : List Deed} {o1 o2 : Int} {xs : List Int} (ok1 : DsOk m ds1) (ok2 : DsOk m ds2) (hm : xs.length = m) (m1 : 1 ≤ m) (hx : ∀ x ∈ xs, 0 ≤ x ∧ x < 2 ^ w) (p0 : 0 ≤ o1) (p1 : o1 < m + ds1.length) (q0 : 0 ≤ o2) (q1 : o2 < m + ds2.length) :
    agW ds1 o1 ds2 o2 w (ds1.map fcD) (ds2.map fcD) xs = true ↔ (vals (2 ^ w) ds1 xs).getD o1.toNat 0 = (vals (2 ^ w) ds2 xs).getD o2.toNat 0 := by
  have h := agW_bits ok1 ok2 hm m1 hx p0 p1 q0 q1 w 0 (by omega)
  have e : xs.map (· / 2 ^ 0) = xs := by
    conv => rhs; rw [← List.map_id xs]
    exact List.map_congr_left fun x _ => Int.ediv_one x
  rw [e] at h
  have rg : ∀ {ds : List Deed} {o : Int}, 0 ≤ o → o < m + ds.length → (vals (2 ^ w) ds xs).getD o.toNat 0 % 2 ^ w = (vals (2 ^ w) ds xs).getD o.toNat 0 := fun {ds o} o0 o1 => by
    have vl := vals_len (size := 2 ^ w) ds xs
    have ol : o.toNat < (vals (2 ^ w) ds xs).length := by
      rw [vl, hm]
      omega
    rw [List.getD_eq_getElem?_getD, List.getElem?_eq_getElem ol]
    obtain ⟨a, b⟩ := vals_range (pw_pos w) ds xs hx _ (List.getElem_mem ol)
    exact Int.emod_eq_of_lt a b
  refine h.trans ⟨fun hb => ?_, fun hb s _ _ => by rw [hb]⟩
  have := bits_eq w fun s hs => hb s (Nat.zero_le _) hs
  rw [rg p0 p1, rg q0 q1] at this
  exact this
/-- how many choices of words agree -/
def agree (m w : Nat) (ds1 : List Deed) (o1 : Int) (ds2 : List Deed) (o2 : Int) : Nat := wsum (2 ^ w) m fun xs => if (vals (2 ^ w) ds1 xs).getD o1.toNat 0 = (vals (2 ^ w) ds2 xs).getD o2.toNat 0 then 1 else 0
theorem often_agree {m w : Nat} {ds1 ds2 : List Deed} {o1 o2 : Int} {l1 l2 : List MRow} {S1 S2 : List Int → Nat → Prop} {ps : List (Nat × Nat)} {bh : List (List Nat)} (sm1 : Sim m ds1 o1 l1 S1) (sm2 : Sim m ds2 o2 l2 S2) (ag : AgOk l1 l2 ps bh) (hl : bh.length = ps.length) (ok1 : RowOk m ds1 o1) (ok2 : RowOk m ds2 o2) :
    (agN bh w).getD 0 0 = agree m w ds1 o1 ds2 o2 := by
  have m1 := ok1.m1
  rw [ag_cnt sm1 sm2 ag hl w 0 0 0 _ _ ag.first sm1.1 sm2.1, cnt_wsum]
  refine wsum_congr fun xs hxl hxr => ?_
  have hx : ∀ x ∈ xs, 0 ≤ x ∧ x < 2 ^ w := fun x hx => by
    have := hxr x hx
    rw [pw_cast]
    exact this
  have := agW_worth ok1.deeds ok2.deeds hxl (by omega) hx ok1.o0 ok1.o1 ok2.o0 ok2.o1
  by_cases h : (vals (2 ^ w) ds1 xs).getD o1.toNat 0 = (vals (2 ^ w) ds2 xs).getD o2.toNat 0
  · rw [if_pos (this.mpr h), if_pos h]
  · rw [if_neg (fun z => h (this.mp z)), if_neg h]
theorem agree_comm {m w : Nat} {ds1 ds2 : List Deed} {o1 o2 : Int} : agree m w ds1 o1 ds2 o2 = agree m w ds2 o2 ds1 o1 := wsum_congr fun xs _ _ => by
  by_cases h : (vals (2 ^ w) ds1 xs).getD o1.toNat 0 = (vals (2 ^ w) ds2 xs).getD o2.toNat 0
  · rw [if_pos h, if_pos h.symm]
  · rw [if_neg h, if_neg (fun z => h z.symm)]
/-! ### rows as data that is compared -/
theorem dp_deeds {K : PySem.W.Frag} {H : Hp} : ∀ {rs : List Addr} {ds : List Deed}, DsAt H rs ds → DpAll K H (rs.map V.ref) (ds.map deedD)
  | _, _, .nil => .nil
  | _, _, .cons h t => .cons (.tup (SqT.of h) (.cons (.str _) (dp_ints _))) (dp_deeds t)
theorem dp_row {K : PySem.W.Frag} {H : Hp} {R : Addr} {m o : Int} {ds : List Deed} (h : RowAt H R m ds o) : Dp K H (.ref R) (rowD m ds o) := by
  obtain ⟨D, rs, e1, e2, e3⟩ := h
  exact .tup (SqT.of e1) (.cons (.int m) (.cons (.tup (SqT.of e2) (dp_deeds e3)) (.cons (.int o) .nil)))
def rwD (r : Rw) : PyData := rowD r.m r.ds r.o
theorem dp_rws {K : PySem.W.Frag} {H : Hp} : ∀ {as : List Addr} {rws : List Rw}, RwsAt H as rws → DpAll K H (as.map V.ref) (rws.map rwD)
  | _, _, .nil => .nil
  | _, _, .cons h t => .cons (dp_row h) (dp_rws t)
theorem lay_deed {m : Int} {d : Deed} (h : DeedOk m d) : PyData.canLay0 (deedD d) = true ∧ PyData.depth (deedD d) ≤ 1 := by
  obtain ⟨h1, h2⟩ := lay_ints d.2
  have hw : PyData.strOk d.1 = true := fw_ok _ (List.mem_map.mpr ⟨_, h.word, rfl⟩)
  unfold deedD
  simp only [PyData.canLay0, PyData.canLayAll0, PyData.depth, PyData.depthAll, h1, h2, hw, Bool.and_self, Nat.max_self, true_and]
  decide
theorem lay_deeds {m : Int} : ∀ {ds : List Deed}, DsOk m ds → PyData.canLayAll0 (ds.map deedD) = true ∧ PyData.depthAll (ds.map deedD) ≤ 1
  | ds, h => by
    have key : ∀ l : List Deed, (∀ d ∈ l, ∃ m, DeedOk m d) → PyData.canLayAll0 (l.map deedD) = true ∧ PyData.depthAll (l.map deedD) ≤ 1 := by
      intro l
      induction l with
      | nil => intro _; exact ⟨by simp only [List.map_nil, PyData.canLayAll0], by simp only [List.map_nil, PyData.depthAll]; decide⟩
      | cons d l ih =>
        intro hl
        obtain ⟨a1, a2⟩ := ih fun x hx => hl x (List.mem_cons_of_mem _ hx)
        obtain ⟨m, hm⟩ := hl d List.mem_cons_self
        obtain ⟨b1, b2⟩ := lay_deed hm
        refine ⟨by simp only [List.map_cons, PyData.canLayAll0, a1, b1, Bool.and_self], ?_⟩
        simp only [List.map_cons, PyData.depthAll]
        omega
    refine key ds fun d hd => ?_
    obtain ⟨k, hk⟩ := List.mem_iff_getElem?.mp hd
    exact ⟨_, h.each k d hk⟩
theorem lay_row {m o : Int} {ds : List Deed} (h : DsOk m ds) : PyData.canLay0 (rowD m ds o) = true ∧ PyData.depth (rowD m ds o) ≤ 3 := by
  obtain ⟨h1, h2⟩ := lay_deeds h
  unfold rowD
  refine ⟨by simp only [PyData.canLay0, PyData.canLayAll0, h1, Bool.and_self], ?_⟩
  simp only [PyData.depth, PyData.depthAll]
  omega
theorem shaped_rws {rws : List Rw} (h : ∀ r ∈ rws, RwOk r) : SeqAt.shaped (.list (rws.map rwD)) = true := by
  have key : ∀ l : List Rw, (∀ r ∈ l, RwOk r) → PyData.canLayAll0 (l.map rwD) = true ∧ PyData.depthAll (l.map rwD) ≤ 3 := by
    intro l
    induction l with
    | nil => intro _; exact ⟨by simp only [List.map_nil, PyData.canLayAll0], by simp only [List.map_nil, PyData.depthAll]; decide⟩
    | cons r l ih =>
      intro hl
      obtain ⟨a1, a2⟩ := ih fun x hx => hl x (List.mem_cons_of_mem _ hx)
      obtain ⟨b1, b2⟩ := lay_row (o := r.o) (hl r List.mem_cons_self).deeds
      have b1' : PyData.canLay0 (rwD r) = true := b1
      have b2' : PyData.depth (rwD r) ≤ 3 := b2
      refine ⟨by simp only [List.map_cons, PyData.canLayAll0, a1, b1', Bool.and_self], ?_⟩
      simp only [List.map_cons, PyData.depthAll]
      omega
  obtain ⟨h1, h2⟩ := key rws h
  have c1 : PyData.canLay0 (.list (rws.map rwD)) = true := by simp only [PyData.canLay0, h1]
  have c2 : PyData.depth (.list (rws.map rwD)) ≤ 64 := by
    have e : PyData.depth (.list (rws.map rwD)) ≤ PyData.depthAll (rws.map rwD) + 1 := by simp only [PyData.depth]; omega
    omega
  unfold SeqAt.shaped
  rw [c1, decide_eq_true c2]
  rfl
theorem lay_pair {rws : List Rw} {r : Rw} (h : ∀ r ∈ rws, RwOk r) (hr : RwOk r) : PyData.canLay0 (.tuple [rwD r, .list (rws.map rwD)]) = true := by
  have h1 : PyData.canLay0 (.list (rws.map rwD)) = true := by
    have := shaped_rws h
    unfold SeqAt.shaped at this
    rw [Bool.and_eq_true] at this
    exact this.1
  have h2 : PyData.canLay0 (rwD r) = true := (lay_row hr.deeds).1
  simp only [PyData.canLay0, PyData.canLayAll0, Bool.and_true] at h1 ⊢
  rw [h1, h2]
  rfl
theorem nice_rws {rws : List Rw} {r : Rw} (h : ∀ r ∈ rws, RwOk r) (hr : RwOk r) (hl : rws.length ≤ 4) : Nice 4000 5 (.tuple [rwD r, .list (rws.map rwD)]) := by
  refine nice_tup (b := 1900) (k := 4) (fun x hx => ?_) (by simp only [List.length_cons, List.length_nil]; decide)
  simp only [List.mem_cons, List.not_mem_nil, or_false] at hx
  rcases hx with rfl | rfl
  · exact (nice_row hr).mono (by decide) (by decide)
  · refine (nice_lst (b := 459) (k := 3) (n := 1840) (fun x hx => ?_) ?_).mono (by decide) (by decide)
    · obtain ⟨y, hy, rfl⟩ := List.mem_map.mp hx
      exact nice_row (h y hy)
    · rw [List.length_map]
      omega
/-! ### a second row -/
theorem cutTake {xs : List V} {k : Nat} (h : k ≤ xs.length) : cutV xs none (some (k : Int)) = xs.take k := by
  have h1 : HT.sIx xs.length 0 none = 0 := HT.sIx_none _ _
  have h2 : HT.sIx xs.length xs.length (some (k : Int)) = min k xs.length := HT.sIx_nat _ _ k
  unfold cutV
  rw [h1, h2, Nat.min_eq_left h, Nat.sub_zero]
  rfl
theorem cutDrop {xs : List V} {k : Nat} (h : k ≤ xs.length) : cutV xs (some (k : Int)) none = xs.drop k := by
  have h1 : HT.sIx xs.length 0 (some (k : Int)) = min k xs.length := HT.sIx_nat _ _ k
  have h2 : HT.sIx xs.length xs.length none = xs.length := HT.sIx_none _ _
  unfold cutV
  rw [h1, h2, Nat.min_eq_left h]
  exact List.take_of_length_le (by rw [List.length_drop]; omega)
theorem awTake {α β : Type} {F : α → β → Prop} : ∀ {l : List α} {l2 : List β} (k : Nat), Paired F l l2 → Paired F (l.take k) (l2.take k)
  | _, _, 0, _ => .nil
  | _, _, _ + 1, .nil => .nil
  | _, _, k + 1, .cons h t => .cons h (awTake k t)
theorem awDrop' {α β : Type} {F : α → β → Prop} : ∀ {l : List α} {l2 : List β} (k : Nat), Paired F l l2 → Paired F (l.drop k) (l2.drop k)
  | _, _, 0, h => h
  | _, _, _ + 1, .nil => .nil
  | _, _, k + 1, .cons _ t => awDrop' k t
def spSe : Sp := fun vs H Q _ => ∃ (a c R : Addr) (m o : Int) (ds : List Deed), vs = [.ref a, .ref R] ∧ WL H a c ∧ RowAt H R m ds o ∧ RowOk m ds o ∧
  ∀ H' R' ds' o', RowAt H' R' m ds' o' → RowOk m ds' o' → WL H' a c → Kp a c H H' → Q (.ref R') H'
theorem dsOk_put {m : Int} {ds : List Deed} {d : Deed} {k : Nat} (h : DsOk m ds) (hd : DeedOk (m + k) d) : DsOk m (ds.set k d) := by
  refine ⟨fun j e hj => ?_⟩
  by_cases e1 : k = j
  · subst e1
    by_cases hl : k < ds.length
    · rw [List.getElem?_set_self hl] at hj
      obtain rfl := Option.some.inj hj
      exact hd
    · rw [List.getElem?_eq_none (by rw [List.length_set]; omega)] at hj
      cases hj
  · rw [List.getElem?_set_ne e1] at hj
    exact h.each j e hj
theorem ok_se {f fD fE fR : Addr} {fd fdD fdE fdR : FuncData} {k : Nat} (F : Fun K "_law_second" "_law_second" s_law_second f fd) (GD : FnOk P w K mg base CX0 (k + 1) fD fdD ["well", "many"] spDraw) (kD : PySem.W.keepIn K (.ref fD) = true) (bD : Binds K fdD ["well", "many"] []) (gD : mg "_law_draw" = some (.ref fD))
    (GE : FnOk P w K mg base CX0 (k + 2) fE fdE ["well", "ahead"] spDeed) (kE : PySem.W.keepIn K (.ref fE) = true) (bE : Binds K fdE ["well", "ahead"] []) (gE : mg "_law_deed" = some (.ref fE))
    (GR : FnOk P w K mg base CX0 (k + 3) fR fdR ["well", "many", "most"] spRow) (kR : PySem.W.keepIn K (.ref fR) = true) (bR : Binds K fdR ["well", "many", "most"] []) (gR : mg "_law_row" = some (.ref fR)) (mn : mg "len" = none) :
    FnOk P w K mg base CX0 (k + 4) f fd ["well", "row"] spSe := by
  refine F.ok sc_law_second (fun vs H Q E h => ?_) (fun cdv A outer s H vs Q E hr h => ?_)
  · obtain ⟨a, c, R, m, o, ds, rfl, _⟩ := h
    rfl
  · obtain ⟨a, c, R, m, o, ds, rfl, hw, hrow, hok, q⟩ := h
    have hr1 := hr.mono (show k + 1 ≤ k + 3 by omega)
    have hr2 := hr.mono (show k + 2 ≤ k + 3 by omega)
    refine ⟨_, pss_cons (ps_set (i := 2) sc_law_second.nd rfl (.inl rfl) (pe_call GD hr1 (by rfl) gD kD bD .nil pass0 (pa_cons (pv 0) (pa_cons pe_int pa_nil))))
      (pss_cons (ps_asg (pv 1) (pg_tup rfl (pgs_cons (pg_name (i := 3) sc_law_second.nd rfl (.inl rfl)) (pgs_cons (pg_name (i := 4) sc_law_second.nd rfl (.inl rfl)) (pgs_cons (pg_name (i := 5) sc_law_second.nd rfl (.inl rfl)) pgs_nil)))))
      (pss_cons (ps_if (PW.pt (pw_or (pt_cmpR op_eq (pv 2) pe_int (nomark _)) (pw_or1 (pt_cmpR (op_eqD hr.units) (pv 4) (pe_tup pa_nil) (nomark _))))) (pss_one (ps_ret (pe_call GR hr (by rfl) gR kR bR .nil pass0 (pa_cons (pv 0) (pa_cons (pv 3) (pa_cons pe_int pa_nil)))))) pss_nil)
      (pss_cons (ps_if (pt_cmpR op_eq (pv 2) pe_int (nomark _)) (pss_one (ps_ret (pe_tup (pa_cons (pv 3) (pa_cons (pv 4) (pa_cons (pe_call GD hr1 (by rfl) gD kD bD .nil pass0 (pa_cons (pv 0) (pa_cons (pe_op op_add (pv 3) (pe_callB call_len_seq (by rfl) mn PySem.boot_len (pa_cons (pv 4) pa_nil))) pa_nil))) pa_nil)))))) pss_nil)
      (pss_cons (ps_set (i := 6) sc_law_second.nd rfl (.inl rfl) (pe_call GD hr1 (by rfl) gD kD bD .nil pass0 (pa_cons (pv 0) (pa_cons (pe_callB call_len_seq (by rfl) mn PySem.boot_len (pa_cons (pv 4) pa_nil)) pa_nil))))
      (pss_one (ps_ret (pe_tup (pa_cons (pv 3) (pa_cons (pe_op op_catZ (pe_op op_catZ (pe_slice sl_tup (pv 4) po_none (po_some (pv 6))) (pe_tup (pa_cons (pe_call GE hr2 (by rfl) gE kE bE .nil pass0 (pa_cons (pv 0) (pa_cons (pe_op op_add (pv 3) (pv 6)) pa_nil))) pa_nil))) (pe_slice sl_tup (pv 4) (po_some (pe_op op_add (pv 6) pe_int)) po_none)) (pa_cons (pv 5) pa_nil)))))))))), ?_⟩
    obtain ⟨D, rs, eR, eD, hd⟩ := id hrow
    have lr := awLen hd
    have m1 := hok.m1
    have m3 := hok.m3
    have l8 := hok.len
    refine ⟨.ref a, rfl, a, c, 4, rfl, by decide, by decide, hw, fun H1 wy wy0 wy1 w1 k1 => ?_⟩
    have t1 := k1.tups hw
    have eR1 := t1 _ _ eR
    have eD1 := t1 _ _ eD
    have hd1 := t1.ds hd
    refine ⟨.ref R, rfl, R, [.int m, .ref D, .int o], rfl, .inl (.inl eR1), rfl, .int m, [.ref D, .int o], rfl, .ref D, [.int o], rfl, .int o, [], rfl, rfl, ?_⟩
    have anyr : ∀ {H2 : Hp}, WL H2 a c → Kp a c H H2 → ∃ a' c' m' n', [V.ref a, .int m, .int 5] = [V.ref a', .int m', .int n'] ∧ 1 ≤ m' ∧ m' ≤ 3 ∧ 0 ≤ n' ∧ n' ≤ 8 ∧ WL H2 a' c' ∧ ∀ H' R ds o, RowAt H' R m' ds o → RowOk m' ds o → (ds.length : Int) ≤ n' → WL H' a' c' → Kp a' c' H2 H' → Q (.ref R) H' := fun {H2} w2 k2 => ⟨a, c, m, 5, rfl, m1, m3, by decide, by decide, w2, fun H' R' ds' o' hr' hk' _ w' k' => q H' R' ds' o' hr' hk' w' (k2.trans k')⟩
    refine ⟨.int wy, rfl, ⟨rfl, _, rfl, ite2 (fun _ => ?_) (fun hw0 => ?_)⟩⟩
    · exact ⟨.ref a, rfl, .int m, rfl, anyr w1 k1⟩
    refine ⟨.ref D, rfl, Nat.zero_le _, fun T hT => ?_⟩
    have sT := same_new (o := .tup []) hT
    refine ⟨.tuple (ds.map deedD), .tuple [], .tup (SqT.of (sT _ _ eD1)) (dp_deeds ((Same.tups sT).ds hd1)), .tup (SqT.of upd_same) .nil, ?_, by decide +kernel, _, rfl, ?_⟩
    · obtain ⟨h1, h2⟩ := lay_deeds hok.deeds
      have c1 : PyData.canLay0 (.tuple (ds.map deedD)) = true := by simp only [PyData.canLay0, h1]
      have c2 : PyData.depth (.tuple (ds.map deedD)) ≤ 64 := by
        have e : PyData.depth (.tuple (ds.map deedD)) ≤ PyData.depthAll (ds.map deedD) + 1 := by simp only [PyData.depth]; omega
        omega
      unfold SeqAt.shaped
      rw [c1, decide_eq_true c2]
      rfl
    have w2 := w1.same sT
    have k2 := k1.trans (Same.kp sT)
    cases hds : ds with
    | nil =>
      rw [show PyData.eqv (.tuple (([] : List Deed).map deedD)) (.tuple []) = true by decide +kernel]
      exact ⟨.ref a, rfl, .int m, rfl, anyr w2 k2⟩
    | cons d0 ds0 =>
      rw [show PyData.eqv (.tuple ((d0 :: ds0).map deedD)) (.tuple []) = false by simp only [List.map_cons, PyData.eqv, PyData.eqvAll]]
      have l1 : 1 ≤ ds.length := by rw [hds, List.length_cons]; omega
      have eD2 := sT _ _ eD1
      have hd2 := (Same.tups sT).ds hd1
      have elen : (((rs.map V.ref).length : Nat) : Int) = (ds.length : Int) := by rw [List.length_map, lr]
      refine ⟨.int wy, rfl, ⟨rfl, _, rfl, ite2 (fun _ => ?_) (fun hw1 => ?_)⟩⟩
      · refine ⟨.int m, rfl, .ref D, rfl, .ref a, rfl, .int m, rfl, .ref D, rfl, D, _, rfl, .inr (SqT.of eD2), m, _, rfl, rfl, a, c, _, rfl, by rw [elen]; omega, by rw [elen]; omega, w2, fun H3 o' o0 o1 w3 k3 => ⟨(by show 3 ≤ sizeLine; decide), fun Z hZ => ?_⟩⟩
        rw [elen] at o1
        have sZ := same_new (o := .tup [.int m, .ref D, .int o']) hZ
        have t3 := (k3.tups w2)
        exact q _ Z ds o' ⟨D, rs, upd_same, sZ _ _ (t3 _ _ eD2), (Same.tups sZ).ds (t3.ds hd2)⟩ ⟨m1, m3, l8, hok.deeds, o0, o1⟩ (w3.same sZ) ((k2.trans k3).trans (Same.kp sZ))
      · refine ⟨.ref a, rfl, .ref D, rfl, D, _, rfl, .inr (SqT.of eD2), a, c, _, rfl, by rw [elen]; omega, by rw [elen]; omega, w2, fun H3 at' at0 at1 w3 k3 => ?_⟩
        rw [elen] at at1
        obtain ⟨kk, rfl⟩ := Int.eq_ofNat_of_zero_le at0
        have hkk : kk < ds.length := by omega
        have t3 := k3.tups w2
        have eD3 := t3 _ _ eD2
        have hd3 := t3.ds hd2
        have rl : (rs.map V.ref).length = ds.length := by rw [List.length_map, lr]
        refine ⟨.int m, rfl, .ref D, rfl, .int (kk : Nat), rfl, (kk : Nat), rfl, D, _, rfl, SqT.of eD3, ?_, fun A1 hA1 => ?_⟩
        · rintro ⟨_, z⟩
          have h2 : HT.sIx (rs.map V.ref).length (rs.map V.ref).length (some ((kk : Nat) : Int)) = min kk (rs.map V.ref).length := HT.sIx_nat _ _ kk
          rw [h2, rl] at z
          omega
        rw [cutTake (by rw [rl]; omega)]
        have sA1 := same_new (o := .tup ((rs.map V.ref).take kk)) hA1
        have w4 := w3.same sA1
        refine ⟨.ref a, rfl, .int m, rfl, .int (kk : Nat), rfl, m, (kk : Nat), rfl, rfl, a, c, _, rfl, by omega, by omega, w4, fun H5 r d hdk er w5 k5 => ⟨(by show 1 ≤ sizeLine; decide), fun U hU => ?_⟩⟩
        have sU := same_new (o := .tup [.ref r]) hU
        have t5 := k5.tups w4
        have eA5 := sU _ _ (t5 _ _ upd_same)
        refine ⟨A1, U, _, _, rfl, rfl, eA5, upd_same, ?_, fun P1 H6 s6 e6 => ?_⟩
        · rw [List.length_take, rl, sizeLine_eq]
          show min kk ds.length + 1 ≤ _
          omega
        have t36 : TupsStay H3 H6 := (Same.tups sA1).trans (t5.trans ((Same.tups sU).trans (Same.tups s6)))
        have eD6 := t36 _ _ eD3
        refine ⟨.ref D, rfl, .int (kk : Nat), rfl, (kk : Nat), 1, rfl, rfl, ((kk : Nat) : Int) + 1, rfl, D, _, rfl, SqT.of eD6, ?_, fun A2 hA2 => ?_⟩
        · rintro ⟨z, _⟩
          have h1 : HT.sIx (rs.map V.ref).length 0 (some (((kk + 1 : Nat) : Nat) : Int)) = min (kk + 1) (rs.map V.ref).length := HT.sIx_nat _ _ (kk + 1)
          have e : (((kk + 1 : Nat) : Nat) : Int) = ((kk : Nat) : Int) + 1 := by omega
          rw [← e, h1, rl] at z
          omega
        have e : ((kk : Nat) : Int) + 1 = ((kk + 1 : Nat) : Int) := by omega
        rw [e, cutDrop (by rw [rl]; omega)]
        have sA2 := same_new (o := .tup ((rs.map V.ref).drop (kk + 1))) hA2
        refine ⟨P1, A2, _, _, rfl, rfl, sA2 _ _ e6, upd_same, ?_, fun P2 H7 s7 e7 => ?_⟩
        · rw [List.length_append, List.length_take, List.length_drop, rl, sizeLine_eq]
          show min kk ds.length + 1 + (ds.length - (kk + 1)) ≤ _
          omega
        refine ⟨.int o, rfl, (by show 3 ≤ sizeLine; decide), fun Z hZ => ?_⟩
        have sZ := same_new (o := .tup [.int m, .ref P2, .int o]) hZ
        have s67 := sA2.trans (s7.trans sZ)
        have t37 := t36.trans (Same.tups s67)
        have er7 : upd H7 Z (.tup [.int m, .ref P2, .int o]) r = some (.tup (dV d)) := s67 _ _ (s6 _ _ (sU _ _ er))
        have eset : ds.set kk d = ds.take kk ++ d :: ds.drop (kk + 1) := List.set_eq_take_append_cons_drop.trans (if_pos hkk)
        have ers : ((rs.map V.ref).take kk ++ [V.ref r]) ++ (rs.map V.ref).drop (kk + 1) = (rs.take kk ++ r :: rs.drop (kk + 1)).map V.ref := by
          rw [List.map_append, List.map_cons, List.map_take, List.map_drop, List.append_assoc]
          rfl
        rw [ers] at e7
        have hd7 := t37.ds hd3
        refine q _ Z (ds.set kk d) o ⟨P2, rs.take kk ++ r :: rs.drop (kk + 1), upd_same, sZ _ _ e7, ?_⟩ ⟨m1, m3, by rw [List.length_set]; exact l8, dsOk_put hok.deeds hdk, hok.o0, by rw [List.length_set]; exact hok.o1⟩ ?_ ?_
        · rw [eset]
          exact awAppend (awTake kk hd7) (.cons er7 (awDrop' (kk + 1) hd7))
        · exact w5.same (sU.trans (s6.trans s67))
        · exact ((k2.trans k3).trans (Same.kp sA1)).trans (k5.trans (Same.kp (sU.trans (s6.trans s67))))
/-! ### numbers changed -/
def renD (nu : List Int) (d : Deed) : Deed := (d.1, d.2.map fun z => nu.getD z.toNat 0)
theorem fw_len {m : Int} {d : Deed} (h : DeedOk m d) : d.2.length ≤ 2 := by
  have := (fw_short _ h.word).2.2
  have e2 : (d.2.length : Int) ≤ 2 := this
  omega
theorem ren_ok {nu : List Int} {d : Deed} {m : Int} (h : DeedOk nu.length d) (hn : ∀ x ∈ nu, 0 ≤ x ∧ x < m) : DeedOk m (renD nu d) := by
  refine ⟨?_, ?_⟩
  · show (d.1, ((d.2.map _).length : Int)) ∈ fwL
    rw [List.length_map]
    exact h.word
  · intro i hi
    obtain ⟨z, hz, rfl⟩ := List.mem_map.mp hi
    obtain ⟨z0, z1⟩ := h.ahead z hz
    have hk : z.toNat < nu.length := by omega
    rw [List.getD_eq_getElem?_getD, List.getElem?_eq_getElem hk]
    exact hn _ (List.getElem_mem hk)
/-! ### enumerate of a tuple -/
section enumt
set_option maxHeartbeats 1000000 in
theorem meets_enum1 {v : Value} {o : Obj} {H : Heap → Prop} (B : Begins v o H) :
    Meets (Builtin.«enumerate.__new__» ⟨[.type "enumerate", v], []⟩) (fun _ R s => H s.heap ∧
      R (.ok (.ret (.ref (s.heap.push o).objs.size))) { s with heap := (s.heap.push o).push { cls := .type "enumerate", data := .fields #[.none, .bool false, .ref s.heap.objs.size, rawInt 0, .none, .none] } }) :=
  .of_wp fun prog w A R s h => by
    obtain ⟨hp, g, d, tk, os⟩ := s; obtain ⟨h1, h⟩ := h
    have hsub := sub_enumerate
    have q1 : ∀ {A' : Around} {E : Value → Shared → Prop} {Q : Value → Shared → Prop}, Q (.ref hp.objs.size) ⟨hp.push o, g, d, tk, os⟩ → wpAny (model prog w) A' (pyIter v) Q E ⟨hp, g, d, tk, os⟩ :=
      fun q => B.iter prog w _ _ ⟨hp, g, d, tk, os⟩ _ h1 q
    wp_walk using q1
    refine wpAny_stack_any fun st => wpAny_pure ?_
    split
    · rename_i c _ _ _ _ _
      cases (c == Value.type "enumerate")
      · wp_walk using q1
        exact ⟨_, rfl, h⟩
      · wp_walk using q1
        exact ⟨_, rfl, h⟩
    · wp_walk using q1
      exact ⟨_, rfl, h⟩
theorem enum1 {prog : Program} {w : World} {A : Around} {E : Value → Shared → Prop} {s : Shared} {v : Value} {o : Obj} {H : Heap → Prop} {Q : Value → Shared → Prop} (B : Begins v o H) (h1 : H s.heap)
    (h : ∀ h', IsEnum h' (s.heap.objs.size + 1) s.heap.objs.size 0 .none → h'.get? s.heap.objs.size = some o → h'.objs.size = s.heap.objs.size + 2 →
      (∀ b o, s.heap.get? b = some o → h'.get? b = some o) → Q (.ref (s.heap.objs.size + 1)) { s with heap := h' }) :
    wpAny (model prog w) A (call (.type "enumerate") [v]) Q E s := by
  refine callType_new F.called_enumerate (by decide) (F.typeCall_enumerate_1 _) (F.newCall_enumerate_1 _) (fun obj => F.args_object_init_2 obj _) F.entry_enumerate_new
    (meets_enum1 B) ⟨h1, ?_⟩
  have hz : (s.heap.push o).objs.size = s.heap.objs.size + 1 := Heap.size_push ..
  show _ ∧ _
  rw [hz]
  have he : IsEnum ((s.heap.push o).push { cls := .type "enumerate", data := .fields #[.none, .bool false, .ref s.heap.objs.size, rawInt 0, .none, .none] }) (s.heap.objs.size + 1) s.heap.objs.size 0 .none := by
    have := Heap.get?_push_size (s.heap.push o) (o := { cls := .type "enumerate", data := .fields #[.none, .bool false, .ref s.heap.objs.size, rawInt 0, .none, .none] }) rfl
    rw [hz] at this; exact this
  refine ⟨⟨_, he, rfl⟩, h _ he (Heap.get?_push_of_some _ (Heap.get?_push_size _ B.free)) (by rw [Heap.size_push, hz]) fun b o x => Heap.get?_push_of_some _ (Heap.get?_push_of_some _ x)⟩
def IteT (K : PySem.W.Frag) (a : Addr) : It :=
  ⟨fun i H => ∃ (xs : List V) (x : V), SqT K H a xs ∧ xs[i]? = some x, fun i H v H' => ∃ T x, v = .ref T ∧ H T = none ∧ H' = upd H T (.tup [.int (i : Nat), x]) ∧ ∀ xs, SqT K H a xs → xs[i]? = some x, fun i H => ∃ xs : List V, SqT K H a xs ∧ xs.length = i⟩
theorem turn_enumT {elts : List Expr} {kk : Nat} {tpos : Pos} (a e it : Addr) (na : a ≠ it) (ne : e ≠ a) :
    Turn P w K (.Tuple elts kk tpos) (IteT K a) [e, it] e (fun i h => (∃ old, IsEnum h e it ((i : Nat) : Int) old) ∧ h.IsTupleIter it a i ∧ e ≠ it) where
  mem := by simp
  obj := fun i h st b hb => by
    obtain ⟨⟨old, he⟩, ⟨o, ho, hc, hd⟩, _⟩ := st
    have e' : b = e ∨ b = it := by simpa using hb
    rcases e' with z | z
    · rw [z]; exact ⟨_, he, fun v q => nomatch q⟩
    · rw [z]; exact ⟨o, ho, fun v q => by rw [hd] at q; cases q⟩
  keep := fun i h h' st k => let ⟨⟨old, he⟩, hi, hne⟩ := st; ⟨⟨old, k e (by simp) _ he⟩, hi.at fun o q => k it (by simp) o q, hne⟩
  item := by
    intro X hP hw hK hc i pins s σ H E I hf st hg
    subst hP hw hK
    obtain ⟨⟨old, he⟩, hit, hne⟩ := st
    obtain ⟨xs, x, hq, hx⟩ := hg
    obtain ⟨its, rv, p, hz⟩ := I.tuple hq
    obtain ⟨u, hu, ru⟩ := rv.get hx
    have hel : e < s.heap.objs.size := Heap.lt_size he
    have hil : it < s.heap.objs.size := by obtain ⟨_, q, _⟩ := hit; exact Heap.lt_size q
    have hh : X.A.in1.handled = none := I.ok.hd hc
    have l1 : i < its.toArray.size := by
      have := (List.getElem?_eq_some_iff.mp hu).1
      simpa using this
    refine wpAny_pyNext_enum_itemD (Draws.tuple hh it a na its.toArray) he ⟨hit, p⟩ l1 hne (by simp [hne, ne]) fun v h' tk g ho hit' hT hsz hk => ?_
    have ev : v = u := by
      have g1' : its.toArray[i]? = some v := g
      have e : its[i]? = some v := by simpa using g1'
      rw [hu] at e
      exact (Option.some.inj e).symm
    subst ev
    refine ⟨_, rfl, wpAny_letOwnedTupleGo_enum (s := { s with heap := h', toks := tk + 1 }) ho fun h'' he' sb => ?_⟩
    have hT2 : h''.get? s.heap.objs.size = some { cls := .type "tuple", data := .seq #[.int i tk, v] } := (sb.2 _ (Nat.ne_of_gt hel)).trans hT
    have new : ObjOk X.prog X.w (upd H s.heap.objs.size (.tup [.int (i : Nat), x])) h'' s.heap.objs.size (.tup [.int (i : Nat), x]) :=
      ⟨by show 2 ≤ sizeLine; decide, [.int i tk, v], .cons ⟨_, rfl⟩ (.cons ru .nil), ⟨_, hT2, rfl, _, rfl⟩⟩
    have I1 : Inv X pins σ (upd H s.heap.objs.size (.tup [.int (i : Nat), x])) { s with heap := h'', toks := tk + 1 } :=
      I.turnedNew (ch := [e, it]) (fun b ob hb q => (sb.2 b (fun z => hb (by simp [z]))).trans (hk b ob (fun z => hb (by simp [z])) (fun z => hb (by simp [z])) q)) hf (Nat.le_refl _) new
    refine ⟨.ref s.heap.objs.size, _, I1, rfl, ⟨_, x, rfl, I.hok.fresh (Nat.le_refl _), rfl, fun ys hy => by rw [I.tuple_inj hy hq]; exact hx⟩, ⟨⟨v, ?_⟩, hit'.1.at fun o q => (sb.2 it (Ne.symm hne)).trans q, hne⟩, fun b hb => ?_⟩
    · have e1 : ((i + 1 : Nat) : Int) = (i : Int) + 1 := by omega
      rw [e1]; exact he'
    · have hb' : b < s.heap.objs.size := by
        have e' : b = e ∨ b = it := by simpa using hb
        rcases e' with z | z
        · rw [z]; exact hel
        · rw [z]; exact hil
      rw [upd_ne (Nat.ne_of_lt hb')]
      exact (hf b hb).1
  done := by
    intro X hP hw hK hc i pins s σ H E I hf st hg
    subst hP hw hK
    obtain ⟨⟨old, he⟩, hit, hne⟩ := st
    obtain ⟨xs, hq, hx⟩ := hg
    obtain ⟨its, rv, p, hz⟩ := I.tuple hq
    obtain ⟨f0, f1, f2, f3, f4, f5⟩ := hf it (by simp)
    have hl := rv.length
    have hh : X.A.in1.handled = none := I.ok.hd hc
    have ei : i = its.toArray.size := by rw [List.size_toArray]; omega
    exact wpAny_pyNext_enum_endD (Draws.tuple hh it a na its.toArray) he ⟨by rw [← ei]; exact hit, p⟩ fun h' eb => ⟨rfl, I.turned (t' := s.toks) (fun b o hb q => eb b o hb q) f0 f1 f3 f4 f5⟩
  self := fun A i s Q E st h => let ⟨⟨_, he⟩, _⟩ := st; wpAny_pyIter_enum he h
def iEnumT (K : PySem.W.Frag) (ta : TA) : TI := fun σ H R => ta σ H fun vs H1 => ∃ a xs, vs = [.ref a] ∧ SqT K H1 a xs ∧ R (IteT K a) H1
theorem pi_enumT {X : Cx} {e : Expr} {ta : TA} {p pos tpos : Pos} {elts : List Expr} {kk : Nat} (hg : Gl X "enumerate") (hm : X.mg "enumerate" = none) (ha : PA X [e] ta) (hs : starEach [e] X.env = [(false, eval e X.env)] := by rfl) :
    PI X (.Tuple elts kk tpos) (.Call (.Name "enumerate" p) [e] [] pos) (iEnumT X.K ta) := by
  refine ⟨fun pins s σ H R I h => ?_⟩
  refine Call_ (ld_blt I hg hm boot_enumerate (PyProof.Rows.callWith_type1 (thn (ha.run pos pins s σ H _ I h) fun us s1 ⟨vs, H1, I1, r1, q1⟩ => ?_) hs rfl))
  obtain ⟨a, xs, ex, hq, q⟩ := q1
  subst ex
  cases r1 with
  | cons r rr =>
    cases rr
    cases r
    obtain ⟨its, rv, p', hz⟩ := I1.tuple hq
    have lb : a < s1.heap.objs.size := by
      obtain ⟨o2, e2, _⟩ := id p'
      exact Heap.lt_size e2
    refine enum1 (begins_tuple a its.toArray) p' fun h' he hit hsz hk => wpAny_pyIter_enum he ?_
    have I2 : Inv X pins σ H1 { s1 with heap := h' } := I1.kept (t' := s1.toks) hk
    refine ⟨s1.heap.objs.size + 1, [s1.heap.objs.size + 1, s1.heap.objs.size], _, _, H1, rfl, I2, turn_enumT a (s1.heap.objs.size + 1) s1.heap.objs.size (Nat.ne_of_lt lb) (Nat.ne_of_gt (Nat.lt_succ_of_lt lb)), ⟨⟨.none, he⟩, ⟨_, hit, rfl, rfl⟩, Nat.succ_ne_self _⟩, fun b hb => ?_, q⟩
    have e' : b = s1.heap.objs.size + 1 ∨ b = s1.heap.objs.size := by simpa using hb
    have hle : s1.heap.objs.size ≤ b := by
      rcases e' with z | z
      · rw [z]; exact Nat.le_succ _
      · rw [z]; exact Nat.le_refl _
    exact I1.fpOk hle (I1.hok.fresh hle)
theorem walk_enumT {a : Addr} {xs : List V} : Walk (IteT K a) xs.length (fun H => SqT K H a xs) (YPair (fun i => some (.int (i : Nat))) (fun i => xs[i]?)) where
  goes := fun i H hi q => ⟨xs, xs[i], q, List.getElem?_eq_getElem hi⟩
  stops := fun H q => ⟨xs, q, rfl⟩
  yields := fun i H v H2 hi q y => by
    obtain ⟨T, x, h1, h2, h3, h4⟩ := y
    exact ⟨T, .int (i : Nat), x, h1, h2, h3, rfl, h4 xs q⟩
end enumt
/-! ### the law's own steps: _law_step, _law_first, _law_choices -/
def g1 (x : Str) (a b c : Int) : Int := if x = "none" then 0 else if x = "one" then c else if x = "all" then 1 else if x = "not" then 1 - a else if x = "neg" then (1 - a + c) % 2 else if x = "twice" then c else a + b + c
def kv1 (a c : Int) : List (Key × V) := [(Sum.inr "none", .int 0), (Sum.inr "one", .int c), (Sum.inr "all", .int 1), (Sum.inr "not", .int (1 - a)), (Sum.inr "neg", .int ((1 - a + c) % 2)), (Sum.inr "twice", .int c)]
def n1 (a c : Int) : Int := if a = 0 ∧ c = 1 then 1 else 0
def n2 (a b c : Int) : Int := if a + b + c > 1 then 1 else 0
def n3 (a b c : Int) : Int := if 1 - a + b + c > 1 then 1 else 0
def gm (x : Str) (a b c : Int) : Int := if x = "neg" then n1 a c else if x = "twice" then a else if x = "add" then n2 a b c else if x = "sub" then n3 a b c else 0
def kv2 (a b : Int) : List (Key × V) := [(Sum.inr "and", .int (Builtin.bitAnd a b)), (Sum.inr "or", .int (Builtin.bitOr a b)), (Sum.inr "xor", .int (Builtin.bitXor a b))]
def kv3 (a b c : Int) : List (Key × V) := [(Sum.inr "neg", .int (n1 a c)), (Sum.inr "twice", .int a), (Sum.inr "add", .int (n2 a b c)), (Sum.inr "sub", .int (n3 a b c))]
theorem fw_all {x : Str} {n : Int} (h : (x, n) ∈ fwL) : (x = "none" ∧ n = 0) ∨ (x = "one" ∧ n = 0) ∨ (x = "all" ∧ n = 0) ∨ (x = "not" ∧ n = 1) ∨ (x = "neg" ∧ n = 1) ∨ (x = "twice" ∧ n = 1) ∨ (x = "and" ∧ n = 2) ∨ (x = "or" ∧ n = 2) ∨ (x = "xor" ∧ n = 2) ∨ (x = "add" ∧ n = 2) ∨ (x = "sub" ∧ n = 2) := by
  unfold fwL at h
  simpa only [List.mem_cons, Prod.mk.injEq, List.not_mem_nil, or_false] using h
theorem kv1_get {x : Str} {n : Int} (h : (x, n) ∈ fwL) (a b c : Int) : (valV (mergeK [] (kv1 a c)) (Sum.inr x)).getD (.int (a + b + c)) = .int (g1 x a b c) := by
  rcases fw_all h with ⟨rfl, _⟩ | ⟨rfl, _⟩ | ⟨rfl, _⟩ | ⟨rfl, _⟩ | ⟨rfl, _⟩ | ⟨rfl, _⟩ | ⟨rfl, _⟩ | ⟨rfl, _⟩ | ⟨rfl, _⟩ | ⟨rfl, _⟩ | ⟨rfl, _⟩ <;> rfl
theorem kv3_get {x : Str} {n : Int} (h : (x, n) ∈ fwL) (a b c : Int) : (valV (mergeK [] (kv3 a b c)) (Sum.inr x)).getD (.int 0) = .int (gm x a b c) := by
  rcases fw_all h with ⟨rfl, _⟩ | ⟨rfl, _⟩ | ⟨rfl, _⟩ | ⟨rfl, _⟩ | ⟨rfl, _⟩ | ⟨rfl, _⟩ | ⟨rfl, _⟩ | ⟨rfl, _⟩ | ⟨rfl, _⟩ | ⟨rfl, _⟩ | ⟨rfl, _⟩ <;> rfl
/-- the bit that comes at last -/
def gb (x : Str) (a b c : Int) : Int := if x = "and" then Builtin.bitAnd a b else if x = "or" then Builtin.bitOr a b else if x = "xor" then Builtin.bitXor a b else g1 x a b c % 2
structure Args2 (d : Deed) (told : List Int) (a b : Int) : Prop where
  ba : Bit a
  bb : Bit b
  cut : ((d.2.map fun (z : Int) => told.getD z.toNat 0) ++ [0, 0]).take 2 = [a, b]
  bit : ∀ c, Bit c → gb d.1 a b c = dbitAt d c told
  car : ∀ c, Bit c → gm d.1 a b c = dcarAt d c told
theorem getD_bit {told : List Int} (tb : ∀ x ∈ told, Bit x) (i : Nat) : Bit (told.getD i 0) := by
  rw [List.getD_eq_getElem?_getD]
  cases e : told[i]? with
  | none => exact bit0
  | some y => exact tb y (List.mem_of_getElem? e)
theorem args2_of {d : Deed} {told : List Int} (ok : DeedOk told.length d) (tb : ∀ x ∈ told, Bit x) : ∃ a b, Args2 d told a b := by
  obtain ⟨x, ns⟩ := d
  have hw := fw_all ok.word
  have z0 : ∀ {ns : List Int}, (ns.length : Int) = 0 → ns = [] := fun h => List.eq_nil_of_length_eq_zero (by omega)
  have z1 : ∀ {ns : List Int}, (ns.length : Int) = 1 → ∃ i, ns = [i] := fun h => List.length_eq_one_iff.mp (by omega)
  have z2 : ∀ {ns : List Int}, (ns.length : Int) = 2 → ∃ i j, ns = [i, j] := fun {ns} h => by
    match ns, (show ns.length = 2 by omega) with
    | [i, j], _ => exact ⟨i, j, rfl⟩
  dsimp only at hw
  have one : ∀ (x : Str) (i : Int), (∀ A Z : Int, Bit A → ∀ c, Bit c → gb x A 0 c = dbit x A Z c ∧ gm x A 0 c = dcar x A Z c) → ∃ a b, Args2 (x, [i]) told a b := fun x i h =>
    ⟨told.getD i.toNat 0, 0, getD_bit tb _, bit0, rfl, fun c hc => (h _ (argAt (x, [i]) told 1) (getD_bit tb _) c hc).1, fun c hc => (h _ (argAt (x, [i]) told 1) (getD_bit tb _) c hc).2⟩
  have nil : ∀ (x : Str), (∀ Y Z : Int, ∀ c, Bit c → gb x 0 0 c = dbit x Y Z c ∧ gm x 0 0 c = dcar x Y Z c) → ∃ a b, Args2 (x, []) told a b := fun x h =>
    ⟨0, 0, bit0, bit0, rfl, fun c hc => (h (argAt (x, []) told 0) (argAt (x, []) told 1) c hc).1, fun c hc => (h (argAt (x, []) told 0) (argAt (x, []) told 1) c hc).2⟩
  have two : ∀ (x : Str) (i j : Int), (∀ A B : Int, Bit A → Bit B → ∀ c, Bit c → gb x A B c = dbit x A B c ∧ gm x A B c = dcar x A B c) → ∃ a b, Args2 (x, [i, j]) told a b := fun x i j h =>
    ⟨told.getD i.toNat 0, told.getD j.toNat 0, getD_bit tb _, getD_bit tb _, rfl, fun c hc => (h _ _ (getD_bit tb _) (getD_bit tb _) c hc).1, fun c hc => (h _ _ (getD_bit tb _) (getD_bit tb _) c hc).2⟩
  rcases hw with ⟨rfl, h⟩ | ⟨rfl, h⟩ | ⟨rfl, h⟩ | ⟨rfl, h⟩ | ⟨rfl, h⟩ | ⟨rfl, h⟩ | ⟨rfl, h⟩ | ⟨rfl, h⟩ | ⟨rfl, h⟩ | ⟨rfl, h⟩ | ⟨rfl, h⟩
  · obtain rfl := z0 h
    exact nil _ fun Y Z c hc => by rcases hc with rfl | rfl <;> exact ⟨rfl, rfl⟩
  · obtain rfl := z0 h
    exact nil _ fun Y Z c hc => by rcases hc with rfl | rfl <;> exact ⟨rfl, rfl⟩
  · obtain rfl := z0 h
    exact nil _ fun Y Z c hc => by rcases hc with rfl | rfl <;> exact ⟨rfl, rfl⟩
  · obtain ⟨i, rfl⟩ := z1 h
    exact one _ i fun A Z hA c hc => by rcases hc with rfl | rfl <;> rcases hA with rfl | rfl <;> exact ⟨rfl, rfl⟩
  · obtain ⟨i, rfl⟩ := z1 h
    exact one _ i fun A Z hA c hc => by rcases hc with rfl | rfl <;> rcases hA with rfl | rfl <;> exact ⟨rfl, rfl⟩
  · obtain ⟨i, rfl⟩ := z1 h
    exact one _ i fun A Z hA c hc => by rcases hc with rfl | rfl <;> rcases hA with rfl | rfl <;> exact ⟨rfl, rfl⟩
  · obtain ⟨i, j, rfl⟩ := z2 h
    exact two _ i j fun A B hA hB c hc => by rcases hc with rfl | rfl <;> rcases hA with rfl | rfl <;> rcases hB with rfl | rfl <;> exact ⟨rfl, rfl⟩
  · obtain ⟨i, j, rfl⟩ := z2 h
    exact two _ i j fun A B hA hB c hc => by rcases hc with rfl | rfl <;> rcases hA with rfl | rfl <;> rcases hB with rfl | rfl <;> exact ⟨rfl, rfl⟩
  · obtain ⟨i, j, rfl⟩ := z2 h
    exact two _ i j fun A B hA hB c hc => by rcases hc with rfl | rfl <;> rcases hA with rfl | rfl <;> rcases hB with rfl | rfl <;> exact ⟨rfl, rfl⟩
  · obtain ⟨i, j, rfl⟩ := z2 h
    exact two _ i j fun A B hA hB c hc => by rcases hc with rfl | rfl <;> rcases hA with rfl | rfl <;> rcases hB with rfl | rfl <;> exact ⟨rfl, rfl⟩
  · obtain ⟨i, j, rfl⟩ := z2 h
    exact two _ i j fun A B hA hB c hc => by rcases hc with rfl | rfl <;> rcases hA with rfl | rfl <;> rcases hB with rfl | rfl <;> exact ⟨rfl, rfl⟩
theorem bts_pre : ∀ {ds : List Deed} {cs t : List Int}, (bts ds cs t).take t.length = t
  | [], cs, t => by cases cs <;> exact List.take_length
  | d :: ds, [], t => List.take_length
  | d :: ds, c :: cs, t => by
    have h := bts_pre (ds := ds) (cs := cs) (t := t ++ [dbitAt d c t])
    show (bts ds cs (t ++ [dbitAt d c t])).take t.length = t
    have h2 : ((bts ds cs (t ++ [dbitAt d c t])).take (t ++ [dbitAt d c t]).length).take t.length = t := by
      rw [h]
      exact List.take_left
    rw [List.take_take, List.length_append, Nat.min_eq_left (by omega)] at h2
    exact h2
theorem bts_app : ∀ {ds1 ds2 : List Deed} {cs1 cs2 t : List Int}, ds1.length = cs1.length → bts (ds1 ++ ds2) (cs1 ++ cs2) t = bts ds2 cs2 (bts ds1 cs1 t)
  | [], ds2, [], cs2, t, _ => by
    show bts ds2 cs2 t = bts ds2 cs2 (bts [] [] t)
    rfl
  | [], _, _ :: _, _, _, h => by simp at h
  | _ :: _, _, [], _, _, h => by simp at h
  | d :: ds1, ds2, c :: cs1, cs2, t, h => bts_app (ds1 := ds1) (ds2 := ds2) (cs1 := cs1) (cs2 := cs2) (t := t ++ [dbitAt d c t]) (by simpa using h)
theorem bts_at {ds : List Deed} {cs t : List Int} {i : Nat} (h : ds.length = cs.length) (hi : i ≤ ds.length) : bts (ds.take i) (cs.take i) t = (bts ds cs t).take (t.length + i) := by
  have l1 : (ds.take i).length = (cs.take i).length := by rw [List.length_take, List.length_take, h]
  have e : bts ds cs t = bts (ds.drop i) (cs.drop i) (bts (ds.take i) (cs.take i) t) := by rw [← bts_app l1, List.take_append_drop, List.take_append_drop]
  have l : (bts (ds.take i) (cs.take i) t).length = t.length + i := by rw [bts_len l1, List.length_take, Nat.min_eq_left hi]
  rw [e, ← l, bts_pre]
def spL1 : Sp := fun vs H Q _ => ∃ (R C B : Addr) (m : Nat) (o : Int) (ds : List Deed) (cs bs : List Int), vs = [.ref R, .ref C, .ref B] ∧ RowAt H R m ds o ∧ RowOk m ds o ∧ H C = some (.tup (cs.map V.int)) ∧ cs.length = ds.length ∧ H B = some (.tup (bs.map V.int)) ∧ bs.length = m ∧
  (∀ x ∈ cs, Bit x) ∧ (∀ x ∈ bs, Bit x) ∧ ∀ H' p A2 B2, Same H H' → H A2 = none → H' p = some (.tup [.ref A2, .ref B2]) → H' A2 = some (.lst ((bts ds cs bs).map V.int)) → H' B2 = some (.tup ((nc ds cs bs).map V.int)) → Q (.ref p) H'
set_option maxHeartbeats 2000000 in
theorem ok_l1 {f : Addr} {fd : FuncData} {k : Nat} (F : Fun K "_law_step" "_law_step" s_law_step f fd) (ml : mg "list" = none) (mt : mg "tuple" = none) (me : mg "enumerate" = none) (mi : mg "int" = none) : FnOk P w K mg base CX0 (k + 1) f fd ["row", "carry", "bits"] spL1 := by
  refine F.ok sc_law_step (fun vs H Q E h => ?_) (fun cdv A outer s H vs Q E hr h => ?_)
  · obtain ⟨R, C, B, m, o, ds, cs, bs, rfl, _⟩ := h
    rfl
  · obtain ⟨R, C, B, m, o, ds, cs, bs, rfl, hrow, hok, eC, hcl, eB, hm, cb, bb, q⟩ := h
    obtain ⟨D, rs, eR, eD, hd⟩ := id hrow
    have hu := hu_of hr
    refine ⟨_, pss_cons (ps_set (i := 3) sc_law_step.nd rfl (.inr rfl) (pe_callTy call_list_of (by rfl) ml (by decide +kernel) (pa_cons (pv 2) pa_nil)))
      (pss_cons (ps_set (i := 4) sc_law_step.nd rfl (.inl rfl) (pe_lst pa_nil))
      (pss_cons (ps_for PassesOwn.never rfl (pi_enumT (by rfl) me (pa_cons (pe_ix ix_tup (pv 0) pe_int (fun _ _ => rfl)) pa_nil)) (pg_tup rfl (pgs_cons (pg_name (i := 5) sc_law_step.nd rfl (.inl rfl)) (pgs_cons (pg_name (i := 6) sc_law_step.nd rfl (.inl rfl)) pgs_nil)))
        (pss_cons (ps_par (by rfl) sc_law_step.nd (i := 7) (j := 8) rfl rfl (by decide) rfl rfl (pa_cons (pe_ix ix_tup (pv 6) pe_int (fun _ _ => rfl)) (pa_cons (pe_ix ix_tup (pv 1) (pv 5) (fun _ _ => rfl)) pa_nil)) (by rfl))
        (pss_cons (ps_asg (pe_slice sl_list (pe_op op_cat (pe_lc (own := [("number", 13)]) (g := gName 13) (by rfl) sc_law_step.nd (pi_tup (pe_slice sl_tup (pv 6) (po_some pe_int) po_none)) (blkOk_by (own := [("number", 13)]) (N := N_law_step) (sc := defScope s_law_step) (by decide +kernel))
            (fun _ _ _ _ _ => pg_name (i := 13) sc_law_step.nd rfl (Or.inl rfl)) (fun _ _ _ _ _ => pts_nil) (fun _ _ _ _ _ => pe_ix (r := rIxL K) ix_list (pv 3) (pv 13) (fun _ _ => rfl))) (pe_lst (pa_cons pe_int (pa_cons pe_int pa_nil)))) po_none (po_some pe_int)) (pg_lst rfl (pgs_cons (pg_name (i := 9) sc_law_step.nd rfl (.inl rfl)) (pgs_cons (pg_name (i := 10) sc_law_step.nd rfl (.inl rfl)) pgs_nil))))
        (pss_cons (ps_set (i := 11) sc_law_step.nd rfl (.inl rfl) (pe_op op_mod (pe_dget2 hu (pe_disp (pps_cons pe_str pe_int (pps_cons pe_str (pv 8) (pps_cons pe_str pe_int (pps_cons pe_str (pe_op op_sub pe_int (pv 9)) (pps_cons pe_str (pe_op op_mod (pe_op op_add (pe_op op_sub pe_int (pv 9)) (pv 8)) pe_int) (pps_cons pe_str (pv 8) pps_nil)))))) (by rfl) (by rfl) (fun z => by cases z) (by decide)) (pv 7) (pe_op op_add (pe_op op_add (pv 9) (pv 10)) (pv 8)) ⟨rfl, rfl, rfl, rfl⟩) pe_int))
        (pss_mid (ps_if (pt_cmpR op_in_seq (pv 7) (pe_tup (pa_cons pe_str (pa_cons pe_str (pa_cons pe_str pa_nil)))) (by rfl)) (pss_one (ps_set (i := 11) sc_law_step.nd rfl (.inl rfl) (pe_dget hu (pe_disp (pps_cons pe_str (pe_op op_and (pv 9) (pv 10)) (pps_cons pe_str (pe_op op_or (pv 9) (pv 10)) (pps_cons pe_str (pe_op op_xor (pv 9) (pv 10)) pps_nil))) (by rfl) (by rfl) (fun z => by cases z) (by decide)) (pv 7) (fun _ _ => rfl)))) pss_nil)
        (pss_mid (ps_set (i := 12) sc_law_step.nd rfl (.inl rfl) (pe_disp (pps_cons pe_str (pe_callTy call_int1 (by rfl) mi (by decide +kernel) (pa_cons (pe_and (pe_cmpR op_eq (pv 9) pe_int (nomark _)) (pe_one (pe_cmpR op_eq (pv 8) pe_int (nomark _)))) pa_nil)) (pps_cons pe_str (pv 9) (pps_cons pe_str (pe_callTy call_int1 (by rfl) mi (by decide +kernel) (pa_cons (pe_cmpR op_gt (pe_op op_add (pe_op op_add (pv 9) (pv 10)) (pv 8)) pe_int (nomark _)) pa_nil)) (pps_cons pe_str (pe_callTy call_int1 (by rfl) mi (by decide +kernel) (pa_cons (pe_cmpR op_gt (pe_op op_add (pe_op op_add (pe_op op_sub pe_int (pv 9)) (pv 10)) (pv 8)) pe_int (nomark _)) pa_nil)) pps_nil)))) (by rfl) (by rfl) (fun z => by cases z) (by decide)))
        (pss_cons (ps_expr (pe_bm PySem.F.plainAttrs_list PySem.F.slot_list_append PySem.F.type_list_append mt_append (pv 3) (pa_cons (pv 11) pa_nil)))
        (pss_one (ps_expr (pe_bm PySem.F.plainAttrs_list PySem.F.slot_list_append PySem.F.type_list_append mt_append (pv 4) (pa_cons (pe_dget2 hu (pv 12) (pv 7) pe_int ⟨rfl, rfl, rfl, rfl⟩) pa_nil)))))))))))
      (pss_one (ps_ret (pe_tup (pa_cons (pv 3) (pa_cons (pe_callTy call_tuple_of (by rfl) mt (by decide +kernel) (pa_cons (pv 4) pa_nil)) pa_nil))))))), ?_⟩
    have l8 := hok.len
    have m3 := hok.m3
    have m1 := hok.m1
    refine ⟨.ref B, rfl, B, _, rfl, .inr (SqT.of eB), fun L hL => ?_⟩
    have sL := same_new (o := .lst (bs.map V.int)) hL
    refine ⟨Nat.zero_le _, fun G hG => ?_⟩
    have sG := same_new (o := .lst []) hG
    have nLG : L ≠ G := fun z => by rw [← z, upd_same] at hG; cases hG
    have nG : H G = none := sL.free hG
    have tl : (bts ds cs bs).length = bs.length + ds.length := bts_len hcl.symm
    have allbits : ∀ x ∈ bts ds cs bs, Bit x := bts_bits bb cb
    have sLG := sL.trans sG
    refine ⟨.ref R, rfl, R, _, 1, .ref D, rfl, rfl, SqT.of (sLG _ _ eR), rfl, D, _, rfl, SqT.of (sLG _ _ eD), for_it (walk_enumT (K := K) (a := D) (xs := rs.map V.ref)) (fun i σ H3 => ∃ y5 y6 y7 y8 y9 y10 y11 y12, σ = [some (.ref R), some (.ref C), some (.ref B), some (.ref L), some (.ref G), y5, y6, y7, y8, y9, y10, y11, y12, none] ∧ H3 L = some (.lst ((bts (ds.take i) (cs.take i) bs).map V.int)) ∧ H3 G = some (.lst (((nc ds cs bs).take i).map V.int)) ∧ Same H H3)
      ⟨none, none, none, none, none, none, none, none, rfl, ?_, upd_same, sLG⟩ (fun i σ H3 _ hp => ?_) (fun i x σ H3 H4 hi hp hy => ?_) (fun σ H3 hp => ?_)⟩
    · rw [upd_ne nLG, upd_same]
      cases ds <;> rfl
    · obtain ⟨_, _, _, _, _, _, _, _, _, _, _, sm⟩ := hp
      exact SqT.of (sm _ _ eD)
    · obtain ⟨y5, y6, y7, y8, y9, y10, y11, y12, rfl, e3, g3, sm⟩ := hp
      obtain ⟨T, x1, x2, rfl, hT, rfl, hx1, hx2⟩ := hy
      obtain rfl : V.int (i : Nat) = x1 := Option.some.inj hx1
      have hi2 : i < rs.length := by rwa [List.length_map] at hi
      have hx2' : x2 = .ref rs[i] := by
        have g2' : (rs.map V.ref)[i]? = some x2 := hx2
        rw [List.getElem?_map, List.getElem?_eq_getElem hi2] at g2'
        exact (Option.some.inj g2').symm
      subst hx2'
      obtain ⟨d, hd1, hd2⟩ := awGet hd (List.getElem?_eq_getElem hi2)
      obtain ⟨r, hr'⟩ : ∃ r, r = rs[i] := ⟨_, rfl⟩
      rw [← hr'] at hd2 ⊢
      have h2 : i < ds.length := by
        rw [← awLen hd]
        exact hi2
      obtain ⟨c, hc⟩ : ∃ c, cs[i]? = some c := ⟨_, List.getElem?_eq_getElem (by omega)⟩
      have hcb := cb c (List.mem_of_getElem? hc)
      have hlen : (bts (ds.take i) (cs.take i) bs).length = bs.length + i := by
        rw [bts_len (by rw [List.length_take, List.length_take, hcl]), List.length_take, Nat.min_eq_left (Nat.le_of_lt h2)]
      obtain ⟨told, htold⟩ : ∃ told, told = bts (ds.take i) (cs.take i) bs := ⟨_, rfl⟩
      have okd : DeedOk told.length d := by
        rw [htold, hlen]
        have := hok.deeds.each i d hd1
        rw [← hm] at this
        exact this
      have tb : ∀ x ∈ told, Bit x := by rw [htold]; exact bts_bits bb (fun x hx => cb x (List.mem_of_mem_take hx))
      have ecar : dcarAt d c (bts ds cs bs) = dcarAt d c told := by
        have e : told = (bts ds cs bs).take told.length := by
          rw [htold, bts_at hcl.symm (Nat.le_of_lt h2), List.length_take, tl, Nat.min_eq_left (by omega)]
        unfold dcarAt
        rw [e, arg_take okd (by rw [htold, hlen]; omega) (by rw [htold, hlen, tl]; omega), arg_take okd (by rw [htold, hlen]; omega) (by rw [htold, hlen, tl]; omega)]
      have e3t : H3 L = some (.lst (told.map V.int)) := by rw [htold]; exact e3
      obtain ⟨a, b, ar⟩ := args2_of okd tb
      have fwd := okd.word
      have d2 := fw_len okd
      have sT := same_new (o := .tup [.int (i : Nat), .ref r]) hT
      have er := sT _ _ (sm _ _ hd2)
      have hci : atI (cs.map V.int) ((i : Nat) : Int) = some (.int c) := atI_nat (by rw [List.getElem?_map, hc]; rfl)
      refine ⟨T, [.int (i : Nat), .ref r], rfl, .inl (.inl upd_same), rfl, .int (i : Nat), [.ref r], rfl, .ref r, [], rfl, rfl, ?_⟩
      refine ⟨.ref r, rfl, r, _, 0, .str d.1, rfl, rfl, SqT.of er, dv0 d, .ref C, rfl, .int (i : Nat), rfl, C, _, _, .int c, rfl, rfl, SqT.of (sT _ _ (sm _ _ eC)), hci, _, _, rfl, ?_⟩
      obtain ⟨H5, hH5⟩ : ∃ H5, H5 = upd H3 T (.tup [.int (i : Nat), .ref r]) := ⟨_, rfl⟩
      rw [← hH5] at er sT ⊢
      have s5 := sm.trans sT
      have eL5 := sT _ _ e3t
      have eG5 := sT _ _ g3
      clear hH5
      refine ⟨.ref r, rfl, 1, rfl, r, dV d, rfl, SqT.of er, notWhole _ _, fun T2 hT2 => ?_⟩
      have eT : cutV (dV d) (some 1) none = d.2.map V.int := cutTail _ _
      rw [eT]
      have sT2 := same_new (o := .tup (d.2.map V.int)) hT2
      obtain ⟨H6, hH6⟩ : ∃ H6, H6 = upd H5 T2 (.tup (d.2.map V.int)) := ⟨_, rfl⟩
      have eT6 : H6 T2 = some (.tup (d.2.map V.int)) := by rw [hH6]; exact upd_same
      rw [← hH6] at sT2 ⊢
      clear hH6
      refine ⟨T2, rfl, ⟨_, SqT.of eT6⟩, fun C2 hC2 => ?_⟩
      have sC2 : ∀ o, Same H6 (upd H6 C2 o) := fun o => same_new hC2
      refine lc_tup (K := K) (a := T2) (xs := d.2.map V.int) (fun j H7 => H7 = upd H6 C2 (.lst (((d.2.take j).map fun z => told.getD z.toNat 0).map V.int))) rfl (fun j H7 _ hp => ?_) (fun j x H7 hx hp => ?_) (fun H7 hp => ?_)
      · rw [hp]
        exact SqT.of (sC2 _ _ _ eT6)
      · obtain ⟨z, hz, rfl⟩ : ∃ z, d.2[j]? = some z ∧ x = .int z := by
          rw [List.getElem?_map] at hx
          cases e : d.2[j]? with
          | none => rw [e] at hx; cases hx
          | some z => rw [e] at hx; exact ⟨z, rfl, (Option.some.inj hx).symm⟩
        obtain ⟨z0, z1⟩ := okd.ahead z (List.mem_of_getElem? hz)
        subst hp
        refine ⟨rfl, .ref L, rfl, .int z, rfl, L, _, z, _, rfl, rfl, .inl (.inl (sC2 _ _ _ (sT2 _ _ eL5))), atI_ints z0 z1, _, upd_same, ?_, ?_⟩
        · rw [List.length_map, List.length_map, List.length_take]
          exact small1000 (by omega)
        · rw [upd_upd, List.take_add_one, hz]
          simp
      have eC2 : H7 C2 = some (.lst ((d.2.map fun z => told.getD z.toNat 0).map V.int)) := by
        rw [hp, upd_same, List.length_map, List.take_length]
      have s7 : Same H6 H7 := by rw [hp]; exact sC2 _
      refine ⟨(by show 2 ≤ sizeLine; decide), fun Z hZ => ?_⟩
      have sZ := same_new (o := .lst [.int 0, .int 0]) hZ
      refine ⟨C2, Z, _, _, rfl, rfl, sZ _ _ eC2, upd_same, ?_, fun U hU => ?_⟩
      · rw [List.length_map, List.length_map]
        exact Nat.le_of_lt (small1000 (by show _ + 2 ≤ 1000; omega))
      have sU := same_new (o := .lst ((d.2.map fun z => told.getD z.toNat 0).map V.int ++ [.int 0, .int 0])) hU
      refine ⟨2, rfl, U, _, rfl, .inl (.inl upd_same), fun Y hY => ?_⟩
      have eY : cutV ((d.2.map fun z => told.getD z.toNat 0).map V.int ++ [.int 0, .int 0]) none (some 2) = [.int a, .int b] := by
        have h := cutTake (xs := (d.2.map fun (z : Int) => told.getD z.toNat 0).map V.int ++ [.int 0, .int 0]) (k := 2) (by rw [List.length_append]; show 2 ≤ _ + 2; omega)
        have e2 : (d.2.map fun z => told.getD z.toNat 0).map V.int ++ [.int 0, .int 0] = ((d.2.map fun (z : Int) => told.getD z.toNat 0) ++ [0, 0]).map V.int := by
          rw [List.map_append]
          rfl
        refine h.trans ?_
        rw [e2, ← List.map_take, ar.cut]
        rfl
      rw [eY]
      have sY := same_new (o := .lst [.int a, .int b]) hY
      have s5Y := sT2.trans (s7.trans (sZ.trans (sU.trans sY)))
      obtain ⟨H8, hH8⟩ : ∃ H8, H8 = upd (upd (upd H7 Z (.lst [.int 0, .int 0])) U (.lst ((d.2.map fun z => told.getD z.toNat 0).map V.int ++ [.int 0, .int 0]))) Y (.lst [.int a, .int b]) := ⟨_, rfl⟩
      have eY8 : H8 Y = some (.lst [.int a, .int b]) := by rw [hH8]; exact upd_same
      rw [← hH8] at s5Y ⊢
      clear hH8
      refine ⟨Y, [.int a, .int b], rfl, .inl (.inl eY8), rfl, .int a, [.int b], rfl, .int b, [], rfl, rfl, ?_⟩
      have s8 := s5.trans s5Y
      have eL8 := s5Y _ _ eL5
      have eG8 := s5Y _ _ eG5
      intro p1 hp1
      have sp1 := fun o => same_new (o := o) hp1
      refine ⟨.int c, rfl, .int a, rfl, _, _, rfl, rfl, .int a, rfl, _, _, rfl, rfl, .int c, rfl, _, _, rfl, rfl, _, _, rfl, rfl, (by show (0 : Int) < 2; decide), .int c, rfl, upd_same, kv1 a c, rfl, (by show 6 ≤ 15; decide), p1, rfl, .inl ⟨_, .inl upd_same⟩, .str d.1, rfl, .int a, rfl, .int b, rfl, _, _, rfl, rfl, .int c, rfl, _, _, rfl, rfl, _, DGet.k (k := Sum.inr d.1) upd_same, ?_⟩
      rw [kv1_get fwd, upd_upd]
      refine ⟨_, 2, rfl, rfl, (by show (0 : Int) < 2; decide), ?_⟩
      have s9 := s8.trans (sp1 (.dK (mergeK [] (kv1 a c))))
      have eL9 := sp1 (.dK (mergeK [] (kv1 a c))) _ _ eL8
      have eG9 := sp1 (.dK (mergeK [] (kv1 a c))) _ _ eG8
      obtain ⟨H9, hH9⟩ : ∃ H9, H9 = upd H8 p1 (.dK (mergeK [] (kv1 a c))) := ⟨_, rfl⟩
      rw [← hH9] at s9 eL9 eG9 ⊢
      clear hH9
      refine ⟨fun σ' H' => σ' = [some (.ref R), some (.ref C), some (.ref B), some (.ref L), some (.ref G), some (.int (i : Nat)), some (.ref r), some (.str d.1), some (.int c), some (.int a), some (.int b), some (.int (dbitAt d c told)), y12, none] ∧ Same H9 H', ?_, ?_⟩
      · refine ⟨.str d.1, rfl, (by show 3 ≤ sizeLine; decide), fun T3 hT3 => ?_⟩
        have sT3 := same_new (o := .tup [.str "and", .str "or", .str "xor"]) hT3
        have hb := ar.bit c hcb
        obtain ⟨x, hxd⟩ : ∃ x, x = d.1 := ⟨_, rfl⟩
        rw [← hxd] at hb fwd ⊢
        obtain ⟨bt, hbt⟩ : ∃ bt, bt = dbitAt d c told := ⟨_, rfl⟩
        rw [← hbt] at hb ⊢
        subst hb
        rcases fw_all fwd with ⟨rfl, _⟩ | ⟨rfl, _⟩ | ⟨rfl, _⟩ | ⟨rfl, _⟩ | ⟨rfl, _⟩ | ⟨rfl, _⟩ | ⟨rfl, _⟩ | ⟨rfl, _⟩ | ⟨rfl, _⟩ | ⟨rfl, _⟩ | ⟨rfl, _⟩
        · exact ⟨T3, _, rfl, .inr (SqT.of upd_same), rfl, rfl, _, rfl, rfl, sT3⟩
        · exact ⟨T3, _, rfl, .inr (SqT.of upd_same), rfl, rfl, _, rfl, rfl, sT3⟩
        · exact ⟨T3, _, rfl, .inr (SqT.of upd_same), rfl, rfl, _, rfl, rfl, sT3⟩
        · exact ⟨T3, _, rfl, .inr (SqT.of upd_same), rfl, rfl, _, rfl, rfl, sT3⟩
        · exact ⟨T3, _, rfl, .inr (SqT.of upd_same), rfl, rfl, _, rfl, rfl, sT3⟩
        · exact ⟨T3, _, rfl, .inr (SqT.of upd_same), rfl, rfl, _, rfl, rfl, sT3⟩
        · refine ⟨T3, _, rfl, .inr (SqT.of upd_same), rfl, rfl, _, rfl, fun p2 hp2 => ?_⟩
          refine ⟨.int a, rfl, .int b, rfl, _, _, rfl, rfl, .int a, rfl, .int b, rfl, _, _, rfl, rfl, .int a, rfl, .int b, rfl, _, _, rfl, rfl, upd_same, kv2 a b, rfl, (by show 3 ≤ 15; decide), .str "and", rfl, p2, _, rfl, dget_at (k := Sum.inr "and") upd_same rfl, rfl, ?_⟩
          rw [upd_upd]
          exact sT3.trans (same_new hp2)
        · refine ⟨T3, _, rfl, .inr (SqT.of upd_same), rfl, rfl, _, rfl, fun p2 hp2 => ?_⟩
          refine ⟨.int a, rfl, .int b, rfl, _, _, rfl, rfl, .int a, rfl, .int b, rfl, _, _, rfl, rfl, .int a, rfl, .int b, rfl, _, _, rfl, rfl, upd_same, kv2 a b, rfl, (by show 3 ≤ 15; decide), .str "or", rfl, p2, _, rfl, dget_at (k := Sum.inr "or") upd_same rfl, rfl, ?_⟩
          rw [upd_upd]
          exact sT3.trans (same_new hp2)
        · refine ⟨T3, _, rfl, .inr (SqT.of upd_same), rfl, rfl, _, rfl, fun p2 hp2 => ?_⟩
          refine ⟨.int a, rfl, .int b, rfl, _, _, rfl, rfl, .int a, rfl, .int b, rfl, _, _, rfl, rfl, .int a, rfl, .int b, rfl, _, _, rfl, rfl, upd_same, kv2 a b, rfl, (by show 3 ≤ 15; decide), .str "xor", rfl, p2, _, rfl, dget_at (k := Sum.inr "xor") upd_same rfl, rfl, ?_⟩
          rw [upd_upd]
          exact sT3.trans (same_new hp2)
        · exact ⟨T3, _, rfl, .inr (SqT.of upd_same), rfl, rfl, _, rfl, rfl, sT3⟩
        · exact ⟨T3, _, rfl, .inr (SqT.of upd_same), rfl, rfl, _, rfl, rfl, sT3⟩
      · rintro σ' H10 ⟨rfl, s10⟩
        refine ⟨fun σ' H' => ∃ M, σ' = [some (.ref R), some (.ref C), some (.ref B), some (.ref L), some (.ref G), some (.int (i : Nat)), some (.ref r), some (.str d.1), some (.int c), some (.int a), some (.int b), some (.int (dbitAt d c told)), some (.ref M), none] ∧ Same H10 H' ∧ H' M = some (.dK (mergeK [] (kv3 a b c))), ?_, ?_⟩
        · intro M hM
          have hb := ar.bb
          have ha := ar.ba
          clear ar
          rcases ha with rfl | rfl
          · -- 0
            refine ⟨.int 0, rfl, rfl, _, rfl, .int c, rfl, rfl, .inr ⟨_, rfl, .int 0, rfl, .int 0, rfl, .int b, rfl, _, _, rfl, rfl, .int c, rfl, _, _, rfl, rfl, _, 1, rfl, rfl, .inr ⟨_, rfl, .int 0, rfl, _, _, rfl, rfl, .int b, rfl, _, _, rfl, rfl, .int c, rfl, _, _, rfl, rfl, _, 1, rfl, rfl, .inr ⟨_, rfl, upd_same, kv3 0 b c, ?_, (by show 4 ≤ 15; decide), M, rfl, by rw [upd_upd]; exact same_new hM, upd_same⟩⟩⟩⟩
            rcases hb with rfl | rfl <;> rcases hcb with rfl | rfl <;> rfl
          · -- 1
            refine ⟨.int 1, rfl, rfl, _, rfl, .inr ⟨_, rfl, .int 1, rfl, .int 1, rfl, .int b, rfl, _, _, rfl, rfl, .int c, rfl, _, _, rfl, rfl, _, 1, rfl, rfl, .inr ⟨_, rfl, .int 1, rfl, _, _, rfl, rfl, .int b, rfl, _, _, rfl, rfl, .int c, rfl, _, _, rfl, rfl, _, 1, rfl, rfl, .inr ⟨_, rfl, upd_same, kv3 1 b c, ?_, (by show 4 ≤ 15; decide), M, rfl, by rw [upd_upd]; exact same_new hM, upd_same⟩⟩⟩⟩
            rcases hb with rfl | rfl <;> rcases hcb with rfl | rfl <;> rfl
        · rintro σ' H11 ⟨M, rfl, s11, eM⟩
          have eL11 := s11 _ _ (s10 _ _ eL9)
          refine ⟨.ref L, rfl, .inl ⟨rfl, _, .inl (.inl eL11)⟩, .int _, rfl, L, _, _, rfl, rfl, eL11, ?_, ?_⟩
          · rw [List.length_map, htold, hlen]
            exact small1000 (by omega)
          have nML : M ≠ L := fun z => by rw [z, eL11] at eM; cases eM
          have nGL : G ≠ L := nLG.symm
          have eG12 : upd H11 L (.lst (told.map V.int ++ [.int (dbitAt d c told)])) G = some (.lst (((nc ds cs bs).take i).map V.int)) := by
            rw [upd_ne nGL]
            exact s11 _ _ (s10 _ _ eG9)
          have eM12 : upd H11 L (.lst (told.map V.int ++ [.int (dbitAt d c told)])) M = some (.dK (mergeK [] (kv3 a b c))) := by
            rw [upd_ne nML]
            exact eM
          refine ⟨.ref G, rfl, .inl ⟨rfl, _, .inl (.inl eG12)⟩, .ref M, rfl, M, rfl, .inl ⟨_, .inl eM12⟩, .str d.1, rfl, _, DGet.k (k := Sum.inr d.1) eM12, ?_⟩
          rw [kv3_get fwd, ar.car c hcb]
          refine ⟨G, _, _, rfl, rfl, eG12, ?_, _, _, _, _, _, _, _, _, rfl, ?_, ?_, ?_⟩
          · rw [List.length_map, List.length_take]
            exact small1000 (by omega)
          · rw [upd_ne nLG, upd_same, bts_next hd1 hc, List.map_append, htold]
            rfl
          · rw [upd_same]
            unfold nc
            rw [nxt_next hd1 hc, List.map_append, ecar]
            rfl
          · intro z u e
            have nzL : z ≠ L := ne_of_none e hL
            have nzG : z ≠ G := ne_of_none e nG
            rw [upd_ne nzG, upd_ne nzL]
            exact s11 _ _ (s10 _ _ (s9 _ _ e))
    · obtain ⟨y5, y6, y7, y8, y9, y10, y11, y12, rfl, e3, g3, sm⟩ := hp
      have lrs : (rs.map V.ref).length = ds.length := by rw [List.length_map, awLen hd]
      rw [lrs, List.take_length, ← hcl, List.take_length] at e3
      have nl : (nc ds cs bs).length = ds.length := nxt_len hcl.symm
      rw [lrs, ← nl, List.take_length] at g3
      refine ⟨.ref L, rfl, .ref G, rfl, G, _, rfl, .inl ⟨.inl (.inl g3), fun Z hZ => ?_⟩⟩
      have sZ := same_new (o := .tup ((nc ds cs bs).map V.int)) hZ
      refine ⟨(by show 2 ≤ sizeLine; decide), fun T hT => ?_⟩
      have sT := same_new (o := .tup [.ref L, .ref Z]) hT
      exact q _ T L Z (sm.trans (sZ.trans sT)) hL upd_same (sT _ _ (sZ _ _ e3)) (sT _ _ upd_same)
def spF1 : Sp := fun vs H Q _ => ∃ (R : Addr) (m o : Int) (ds : List Deed), vs = [.ref R] ∧ RowAt H R m ds o ∧ ds.length ≤ 100 ∧ ∀ H' C, Same H H' → H' C = some (.tup ((ds.map fcD).map V.int)) → Q (.ref C) H'
theorem ok_f1 {f : Addr} {fd : FuncData} {k : Nat} (F : Fun K "_law_first" "_law_first" s_law_first f fd) (mt : mg "tuple" = none) (mi : mg "int" = none) : FnOk P w K mg base CX0 (k + 1) f fd ["row"] spF1 := by
  refine F.ok sc_law_first (fun vs H Q E h => ?_) (fun cdv A outer s H vs Q E hr h => ?_)
  · obtain ⟨R, m, o, ds, rfl, _⟩ := h
    rfl
  · obtain ⟨R, m, o, ds, rfl, hrow, l8, q⟩ := h
    obtain ⟨D, rs, eR, eD, hd⟩ := id hrow
    refine ⟨_, pss_one (ps_ret (pe_callTy call_tuple_of (by rfl) mt (by decide +kernel) (pa_cons
      (pe_lc (own := [("deed", 1)]) (g := gName 1) (by rfl) sc_law_first.nd (pi_tup (pe_ix ix_tup (pv 0) pe_int (fun _ _ => rfl))) (blkOk_by (own := [("deed", 1)]) (N := N_law_first) (sc := defScope s_law_first) (by decide +kernel))
        (fun _ _ _ _ _ => pg_name (i := 1) sc_law_first.nd rfl (Or.inl rfl)) (fun _ _ _ _ _ => pts_nil)
        (fun _ _ _ _ _ => pe_callTy call_int1 (by rfl) mi (by decide +kernel) (pa_cons (pe_cmpR (r := rIn K false) op_in_seq (pe_ix (r := rIxT K) ix_tup (pv 1) pe_int (fun _ _ => rfl)) (pe_tup (pa_cons pe_str (pa_cons pe_str pa_nil))) (by rfl)) pa_nil))) pa_nil))), ?_⟩
    refine ⟨.ref R, rfl, R, _, 1, .ref D, rfl, rfl, SqT.of eR, rfl, D, rfl, ⟨_, SqT.of eD⟩, fun C hC => ?_⟩
    refine lc_tup (K := K) (a := D) (xs := rs.map V.ref) (fun j H4 => H4 C = some (.lst (((ds.take j).map fcD).map V.int)) ∧ Same H H4) ⟨upd_same, same_new hC⟩ (fun j H4 _ hp => SqT.of (hp.2 _ _ eD)) (fun j x H4 hx hp => ?_) (fun H4 hp => ?_)
    · obtain ⟨eC, s4⟩ := hp
      rw [List.getElem?_map] at hx
      obtain ⟨r, hr1, rfl⟩ := Option.map_eq_some_iff.mp hx
      obtain ⟨d, hd1, hd2⟩ := awGet hd hr1
      have er := s4 _ _ hd2
      refine ⟨rfl, .ref r, rfl, r, _, 0, .str d.1, rfl, rfl, SqT.of er, dv0 d, (by show 2 ≤ sizeLine; decide), fun T hT => ?_⟩
      have sT := same_new (o := .tup [.str "neg", .str "one"]) hT
      have hin := inS d.1 ["neg", "one"]
      have ev : (if inV (.str d.1) [V.str "neg", .str "one"] = true then (1 : Int) else 0) = fcD d := by
        have h2 : inV (.str d.1) [V.str "neg", .str "one"] = decide (d.1 ∈ (["neg", "one"] : List Str)) := hin
        rw [h2]
        unfold fcD
        by_cases h : d.1 ∈ (["neg", "one"] : List Str)
        · rw [decide_eq_true h, if_pos rfl, if_pos h]
        · rw [decide_eq_false h, if_neg (fun z => nomatch z), if_neg h]
      refine ⟨T, _, rfl, .inr (SqT.of upd_same), rfl, rfl, .inr ⟨_, rfl, ?_⟩⟩
      refine ⟨_, sT _ _ eC, ?_, ?_, ?_⟩
      · rw [List.length_map, List.length_map, List.length_take]
        exact small1000 (by omega)
      · rw [upd_same, List.take_add_one, hd1, List.map_append, List.map_append]
        show some (HO.lst (_ ++ [V.int (if inV (.str d.1) [V.str "neg", .str "one"] = true then (1 : Int) else 0)])) = _
        rw [ev]
        rfl
      · intro b u e
        rw [upd_ne (ne_of_none e hC)]
        exact sT _ _ (s4 _ _ e)
    · obtain ⟨eC, s4⟩ := hp
      rw [List.length_map, awLen hd, List.take_length] at eC
      refine ⟨C, _, rfl, .inl ⟨.inl (.inl eC), fun Z hZ => ?_⟩⟩
      exact q _ Z (s4.trans (same_new hZ)) upd_same
def chB : Nat → List (List Int)
  | 0 => [[]]
  | m + 1 => (chB m).map (0 :: ·) ++ (chB m).map (1 :: ·)
theorem chB_len : ∀ m, (chB m).length = 2 ^ m
  | 0 => rfl
  | m + 1 => by
    show ((chB m).map (0 :: ·) ++ (chB m).map (1 :: ·)).length = _
    rw [List.length_append, List.length_map, List.length_map, chB_len m, Nat.pow_succ]
    omega
theorem chB_elt : ∀ m, ∀ bs ∈ chB m, bs.length = m
  | 0, bs, h => by
    rw [List.mem_singleton.mp h]
    rfl
  | m + 1, bs, h => by
    rcases List.mem_append.mp h with h | h
    · obtain ⟨b, hb, rfl⟩ := List.mem_map.mp h
      rw [List.length_cons, chB_elt m b hb]
    · obtain ⟨b, hb, rfl⟩ := List.mem_map.mp h
      rw [List.length_cons, chB_elt m b hb]
theorem chB_eq {m : Nat} (h : m ≤ 3) : chB m = allB m := by
  have hm : m = 0 ∨ m = 1 ∨ m = 2 ∨ m = 3 := by omega
  rcases hm with rfl | rfl | rfl | rfl <;> rfl
def spCh : Sp := fun vs H Q _ => ∃ m : Nat, vs = [.int (m : Int)] ∧ m ≤ 3 ∧ ∀ H' p fs, Same H H' → H' p = some (.lst (fs.map V.ref)) → TAt H' fs (allB m) → Q (.ref p) H'
set_option maxHeartbeats 1000000 in
theorem ok_ch {f : Addr} {fd : FuncData} {k : Nat} (F : Fun K "_law_choices" "_law_choices" s_law_choices f fd) (mr : mg "range" = none) : FnOk P w K mg base CX0 (k + 1) f fd ["many"] spCh := by
  refine F.ok sc_law_choices (fun vs H Q E h => ?_) (fun cdv A outer s H vs Q E hr h => ?_)
  · obtain ⟨m, rfl, _⟩ := h
    rfl
  · obtain ⟨m, rfl, m3, q⟩ := h
    refine ⟨_, pss_cons (ps_set (i := 1) sc_law_choices.nd rfl (.inl rfl) (pe_lst (pa_cons (pe_tup pa_nil) pa_nil)))
      (pss_cons (ps_for PassesOwn.never rfl (pi_range1 (by rfl) mr (pa_cons (pv 0) pa_nil)) (pg_name (i := 2) sc_law_choices.nd rfl (.inl rfl))
        (pss_one (ps_set (i := 1) sc_law_choices.nd rfl (.inl rfl) (pe_op op_cat
          (pe_lc (own := [("some", 3)]) (g := gName 3) (by rfl) sc_law_choices.nd (pi_list (pv 1)) (blkOk_by (own := [("some", 3)]) (N := N_law_choices) (sc := defScope s_law_choices) (by decide +kernel)) (fun _ _ _ _ _ => pg_name (i := 3) sc_law_choices.nd rfl (Or.inl rfl)) (fun _ _ _ _ _ => pts_nil) (fun _ _ _ _ _ => pe_op op_catZ (pe_tup (pa_cons pe_int pa_nil)) (pv 3)))
          (pe_lc (own := [("some", 3)]) (g := gName 3) (by rfl) sc_law_choices.nd (pi_list (pv 1)) (blkOk_by (own := [("some", 3)]) (N := N_law_choices) (sc := defScope s_law_choices) (by decide +kernel)) (fun _ _ _ _ _ => pg_name (i := 3) sc_law_choices.nd rfl (Or.inl rfl)) (fun _ _ _ _ _ => pts_nil) (fun _ _ _ _ _ => pe_op op_catZ (pe_tup (pa_cons pe_int pa_nil)) (pv 3)))))))
      (pss_one (ps_ret (pv 1)))), ?_⟩
    refine ⟨Nat.zero_le _, fun T0 hT0 => ⟨(by show 1 ≤ sizeLine; decide), fun L0 hL0 => ?_⟩⟩
    have sT0 := same_new (o := .tup []) hT0
    have sL0 := same_new (o := .lst [.ref T0]) hL0
    refine ⟨.int m, rfl, m, rfl, by omega, by omega, for_range (lo := 0) (n := m) (fun i σ H3 => ∃ y2 L fs, σ = [some (.int (m : Int)), some (.ref L), y2, none] ∧ H3 L = some (.lst (fs.map V.ref)) ∧ TAt H3 fs (chB i) ∧ Same H H3) ⟨none, L0, [T0], rfl, upd_same, .cons (sL0 _ _ upd_same) .nil, sT0.trans sL0⟩ (fun i σ H3 hi hp => ?_) (fun σ H3 hp => ?_)⟩
    · obtain ⟨y2, L, fs, rfl, eL, hf, s3⟩ := hp
      have p8 : 2 ^ i ≤ 8 := Nat.le_trans (Nat.pow_le_pow_right (by decide) (show i ≤ 3 by omega)) (by decide)
      have lf := awLen hf
      rw [chB_len] at lf
      refine ⟨.ref L, rfl, L, rfl, ⟨_, .inl (.inl eL)⟩, fun C0 hC0 => ?_⟩
      refine lc_list (K := K) (a := L) (xs := fs.map V.ref) (fun j H6 => ∃ qs, H6 C0 = some (.lst (qs.map V.ref)) ∧ TAt H6 qs (((chB i).take j).map (0 :: ·)) ∧ Same H3 H6) ⟨[], upd_same, .nil, same_new hC0⟩ (fun j H6 _ hp => ?_) (fun j x H6 hx hp => ?_) (fun H4 hp => ?_)
      · obtain ⟨_, _, _, s6⟩ := hp
        exact .inl (.inl (s6 _ _ eL))
      · obtain ⟨qs, eC, hq, s6⟩ := hp
        rw [List.getElem?_map] at hx
        obtain ⟨g, hg1, rfl⟩ := Option.map_eq_some_iff.mp hx
        obtain ⟨bs, hb1, hb2⟩ := awGet hf hg1
        have hb2' : H3 g = some (.tup (bs.map V.int)) := hb2
        have eg : H6 g = some (.tup (bs.map V.int)) := s6 _ _ hb2'
        have lq := awLen hq
        rw [List.length_map, List.length_take] at lq
        have jl := (List.getElem?_eq_some_iff.mp hb1).1
        have bl := chB_elt i bs (List.mem_of_getElem? hb1)
        rw [chB_len] at jl
        refine ⟨rfl, (by show 1 ≤ sizeLine; decide), fun T hT => ?_⟩
        have sT := same_new (o := .tup [.int 0]) hT
        refine ⟨.ref g, rfl, T, g, _, _, rfl, rfl, upd_same, sT _ _ eg, ?_, fun p H7 s7 e7 => ?_⟩
        · rw [List.length_map]
          exact Nat.le_of_lt (small1000 (by show 1 + bs.length ≤ 1000; omega))
        have eC7 := s7 _ _ (sT _ _ eC)
        have e7' : H7 p = some (.tup ((0 :: bs).map V.int)) := e7
        refine ⟨_, eC7, ?_, qs ++ [p], ?_, ?_, ?_⟩
        · rw [List.length_map]
          exact small1000 (by omega)
        · rw [upd_same, List.map_append]
          rfl
        · rw [List.take_add_one, hb1, List.map_append]
          exact tat_stay (tups_put eC7) (awSnoc (F := fun (f : Addr) (b : List Int) => H7 f = some (.tup (b.map V.int))) e7' (tat_stay (Same.tups (sT.trans s7)) hq))
        · intro b u e
          rw [upd_ne (ne_of_none e hC0)]
          exact s7 _ _ (sT _ _ (s6 _ _ e))
      obtain ⟨qs0, eC0, hq0, s4⟩ := hp
      have fl0 : (fs.map V.ref).length = (chB i).length := by rw [List.length_map, lf, chB_len]
      rw [fl0, List.take_length] at hq0
      have lq0 := awLen hq0
      rw [List.length_map, chB_len] at lq0
      refine ⟨.ref L, rfl, L, rfl, ⟨_, .inl (.inl (s4 _ _ eL))⟩, fun C1 hC1 => ?_⟩
      refine lc_list (K := K) (a := L) (xs := fs.map V.ref) (fun j H6 => ∃ qs, H6 C1 = some (.lst (qs.map V.ref)) ∧ TAt H6 qs (((chB i).take j).map (1 :: ·)) ∧ Same H4 H6) ⟨[], upd_same, .nil, same_new hC1⟩ (fun j H6 _ hp => ?_) (fun j x H6 hx hp => ?_) (fun H5 hp => ?_)
      · obtain ⟨_, _, _, s6⟩ := hp
        exact .inl (.inl (s6 _ _ (s4 _ _ eL)))
      · obtain ⟨qs, eC, hq, s6⟩ := hp
        rw [List.getElem?_map] at hx
        obtain ⟨g, hg1, rfl⟩ := Option.map_eq_some_iff.mp hx
        obtain ⟨bs, hb1, hb2⟩ := awGet hf hg1
        have hb2' : H3 g = some (.tup (bs.map V.int)) := hb2
        have eg : H6 g = some (.tup (bs.map V.int)) := s6 _ _ (s4 _ _ hb2')
        have lq := awLen hq
        rw [List.length_map, List.length_take] at lq
        have jl := (List.getElem?_eq_some_iff.mp hb1).1
        have bl := chB_elt i bs (List.mem_of_getElem? hb1)
        rw [chB_len] at jl
        refine ⟨rfl, (by show 1 ≤ sizeLine; decide), fun T hT => ?_⟩
        have sT := same_new (o := .tup [.int 1]) hT
        refine ⟨.ref g, rfl, T, g, _, _, rfl, rfl, upd_same, sT _ _ eg, ?_, fun p H7 s7 e7 => ?_⟩
        · rw [List.length_map]
          exact Nat.le_of_lt (small1000 (by show 1 + bs.length ≤ 1000; omega))
        have eC7 := s7 _ _ (sT _ _ eC)
        have e7' : H7 p = some (.tup ((1 :: bs).map V.int)) := e7
        refine ⟨_, eC7, ?_, qs ++ [p], ?_, ?_, ?_⟩
        · rw [List.length_map]
          exact small1000 (by omega)
        · rw [upd_same, List.map_append]
          rfl
        · rw [List.take_add_one, hb1, List.map_append]
          exact tat_stay (tups_put eC7) (awSnoc (F := fun (f : Addr) (b : List Int) => H7 f = some (.tup (b.map V.int))) e7' (tat_stay (Same.tups (sT.trans s7)) hq))
        · intro b u e
          rw [upd_ne (ne_of_none e hC1)]
          exact s7 _ _ (sT _ _ (s6 _ _ e))
      obtain ⟨qs1, eC1, hq1, s5⟩ := hp
      have fl1 : (fs.map V.ref).length = (chB i).length := by rw [List.length_map, lf, chB_len]
      rw [fl1, List.take_length] at hq1
      have lq1 := awLen hq1
      rw [List.length_map, chB_len] at lq1
      refine ⟨C0, C1, _, _, rfl, rfl, s5 _ _ eC0, eC1, ?_, fun U hU => ?_⟩
      · rw [List.length_map, List.length_map, lq0, lq1]
        exact Nat.le_of_lt (small1000 (by omega))
      have sU := same_new (o := .lst (qs0.map V.ref ++ qs1.map V.ref)) hU
      refine ⟨_, U, qs0 ++ qs1, rfl, ?_, ?_, s3.trans (s4.trans (s5.trans sU))⟩
      · rw [upd_same, List.map_append]
      · exact awAppend (tat_stay (Same.tups (s5.trans sU)) hq0) (tat_stay (Same.tups sU) hq1)
    · obtain ⟨y2, L, fs, rfl, eL, hf, s3⟩ := hp
      rw [chB_eq m3] at hf
      exact ⟨.ref L, rfl, q H3 L fs s3 eL hf⟩
/-! ### dicts by nested keys: read while locked, got with a default, put anew, walked, summed -/
section nd2
variable {X : Cx}
structure NDR (P : Program) (w : World) (H : Hp) (a : Addr) (xs : List NE) : Prop where
  ob : Rd H a (NDO P w a xs)
  ks : ∀ p ∈ xs, NkAt H p.1 (.ref p.2.1) ∧ p.1.depth ≤ 8
theorem ND.r {P : Program} {w : World} {H : Hp} {a : Addr} {xs : List NE} (h : ND P w H a xs) : NDR P w H a xs := ⟨.inl h.ob, h.ks⟩
theorem NDR.full {pins : List (Addr × Obj)} {σ : L2.St} {H : Hp} {s : Shared} {a : Addr} {xs : List NE} (I : Inv X pins σ H s) (h : NDR X.prog X.w H a xs) : xs.length ≤ sizeLine ∧ (a == sysModules) = false ∧ ∃ ys, NRel xs ys ∧ s.heap.DictOfH (nestedKind X.prog X.w) a ys := by
  obtain ⟨⟨z1, z2, ys, z3, o, es, ep, z4, z5, z6, z7, z8⟩, _⟩ := h.ob.ok I.hok
  refine ⟨z1, z2, ys, z3, o, es, ep, z4, z5, z6, z7, fun y hy => ?_, z8⟩
  obtain ⟨i, hi⟩ := List.mem_iff_getElem?.mp hy
  obtain ⟨p, hp, e1, e2, _⟩ := awGet2 z3 hi
  obtain ⟨k1, k2⟩ := h.ks p (List.mem_of_getElem? hp)
  rw [e1, e2] at k1
  rw [e1] at k2
  exact ⟨nk_is I _ _ _ k1 rfl, k2⟩
def tNGetR (P : Program) (w : World) (td ty : TE) : TE := fun σ H Q => td σ H fun x H1 => ty σ H1 fun y H2 => ∃ a xs k v, x = .ref a ∧ NDR P w H2 a xs ∧ KeyN H2 y k ∧ getN xs k = some v ∧ Q v H2
theorem pe_ndgetR {P : Program} {w : World} (hP : X.prog = P) (hw : X.w = w) {o i : Expr} {td ty : TE} {pos : Pos} (hu : X.A.units + 64 < cLine) (ho : PE X o td) (hi : PE X i ty) (hs : NoSl i) : PE X (.Subscript o i pos) (tNGetR P w td ty) := by
  subst hP hw
  constructor
  intro pins s σ H Q I h
  refine subD_of PySem.F.slot_dict_getitem.lookup hs (thn (ho.run pins s σ H _ I h) ?_)
  rintro u s1 ⟨x, H1, I1, rx, q1⟩
  refine thn (hi.run pins s1 σ H1 _ I1 q1) ?_
  rintro iv s2 ⟨y, H2, I2, ry, a, xs, k, v, rfl, hn, hk, hv, q2⟩
  obtain rfl : u = Value.ref a := rx
  obtain ⟨b, rfl, rfl, hb⟩ := nd_at I2 hk ry
  obtain ⟨_, hd, ys, r, dd⟩ := hn.full I2
  have z := getN_rel (k := k) r
  rw [hv] at z
  cases e : atKey ys k with
  | none => rw [e] at z; exact z.elim
  | some p =>
    rw [e] at z
    exact ⟨dd.typeIs, wpAny_getItem_heap (knd := nestedKind X.prog X.w) (show X.A.in1.units + 8 < cLine by show X.A.units + 1 + 8 < cLine; omega) hb dd e ⟨v, H2, I2.tok _, z, q2⟩⟩
def tNGet2 (P : Program) (w : World) (td ty tx : TE) : TE := fun σ H Q => td σ H fun x H1 => ∃ a xs0, x = .ref a ∧ ND P w H1 a xs0 ∧ ty σ H1 fun y H2 => tx σ H2 fun z H3 => ∃ xs k, ND P w H3 a xs ∧ KeyN H3 y k ∧ Q ((getN xs k).getD z) H3
theorem pe_ndget2 {P : Program} {w : World} (hP : X.prog = P) (hw : X.w = w) {o e f : Expr} {td ty tx : TE} {apos cpos : Pos} (hu : X.A.units + 64 < cLine) (ho : PE X o td) (he : PE X e ty) (hf : PE X f tx) (m : M2 X o "get" apos e f cpos) : PE X (.Call (.Attribute o "get" apos) [e, f] [] cpos) (tNGet2 P w td ty tx) := by
  subst hP hw
  constructor
  intro pins s σ H Q I h
  refine wpAny_Call_method m.base m.few m.line PySem.F.plainAttrs_dict PySem.F.slot_dict_get PySem.F.type_dict_get (thn (ho.run pins s σ H _ I h) ?_)
  rintro u s1 ⟨x, H1, I1, rx, a, xs0, rfl, hn1, q1⟩
  obtain rfl : u = Value.ref a := rx
  obtain ⟨_, hd1, ys1, rel1, dd1⟩ := hn1.full I1
  obtain ⟨ob, es', ep, g1, g2, _⟩ := id dd1
  refine ⟨dd1.typeIs, (fun z e => ⟨ob, by injection e with e; rw [← e]; exact g1, g2.2.1⟩), ?_⟩
  rw [m.trees]
  refine Calls.callWith_builtin rfl (Calls.evalArgs_plain (Calls.spliced_cons (thn (he.run pins s1 σ H1 _ I1 q1) ?_)))
  rintro iv s2 ⟨y, H2, I2, ry, q2⟩
  refine Calls.spliced_cons (thn (hf.run pins s2 σ H2 _ I2 q2) ?_)
  rintro fv s3 ⟨z, H3, I3, rz, xs, k, hn, hk, q3⟩
  refine Calls.spliced_nil ?_
  obtain ⟨b, rfl, rfl, hb⟩ := nd_at I3 hk ry
  obtain ⟨_, hd, ys, rel, dd⟩ := hn.full I3
  refine call_meetsIn PySem.F.slot_dict_get dd.typeIs PySem.F.entry_dict_get (PySem.F.args_dict_get_3 _ _ _) (meetsH_dict_get_default (nestedKind X.prog X.w) a b hd fv) ⟨(show X.A.in1.units + 8 < cLine by show X.A.units + 1 + 8 < cLine; omega), k, ys, hb, dd, (getN xs k).getD z, H3, I3.tok _, ?_, q3⟩
  exact (getN_rel (k := k) rel).getD rz
def putN (xs : List NE) (k : NestedKey) (b : Addr) (v : V) : List NE := if (getN xs k).isSome = true then xs.map (fun x => if x.1 = k then (x.1, x.2.1, v) else x) else xs ++ [(k, b, v)]
theorem putN_len (xs : List NE) (k : NestedKey) (b : Addr) (v : V) : (putN xs k b v).length ≤ xs.length + 1 := by
  unfold putN
  split
  · rw [List.length_map]
    omega
  · rw [List.length_append]
    exact Nat.le_refl _
theorem nrel_map {k : NestedKey} {v : V} {r : Value} (rv : RelV v r) : ∀ {xs : List NE} {ys : List (NestedKey × Addr × Value)}, NRel xs ys → NRel (xs.map fun x => if x.1 = k then (x.1, x.2.1, v) else x) (ys.map (putAt k r))
  | _, _, .nil => .nil
  | _, _, .cons (a := x) (b := y) h t => by
    refine .cons ?_ (nrel_map rv t)
    obtain ⟨h1, h2, h3⟩ := h
    unfold putAt
    dsimp only
    by_cases e : x.1 = k
    · rw [if_pos e, if_pos (h1 ▸ e)]
      exact ⟨h1, h2, rv⟩
    · rw [if_neg e, if_neg (h1 ▸ e)]
      exact ⟨h1, h2, h3⟩
theorem nd_writeA {pins : List (Addr × Obj)} {σ : L2.St} {H : Hp} {s : Shared} {a b : Addr} {xs : List NE} {ys : List (NestedKey × Addr × Value)} {k : NestedKey} {v : V} {r : Value} {h' : Heap} {tk : Nat} (I : Inv X pins σ H s) (hn : ND X.prog X.w H a xs) (hl : xs.length < sizeLine) (rel : NRel xs ys) (hd : (a == sysModules) = false)
    (rv : RelV v r) (dd : h'.DictOfH (nestedKind X.prog X.w) a (storedH ys k b r)) (hs : Heap.SameBut a s.heap h') : Inv X pins σ (upd H a (NDO X.prog X.w a (putN xs k b v))) { s with heap := h', toks := tk } := by
  have he : ∃ o, h'.get? a = some o := dd.elim fun o z => ⟨o, z.choose_spec.choose_spec.1⟩
  have lp := putN_len xs k b v
  refine d_write I (by rw [hn.ob]; exact True.intro) hs he (ndo_ok (by omega) hd ?_ dd)
  have z := getN_rel (k := k) rel
  unfold putN
  cases e : getN xs k with
  | none =>
    rw [storedH_new (nrel_none rel e), if_neg (by simp)]
    exact awSnoc (F := fun (p : NE) (q : NestedKey × Addr × Value) => p.1 = q.1 ∧ p.2.1 = q.2.1 ∧ RelV p.2.2 q.2.2) ⟨rfl, rfl, rv⟩ rel
  | some y =>
    rw [e] at z
    cases e2 : atKey ys k with
    | none => rw [e2] at z; exact z.elim
    | some p =>
      rw [storedH_old e2, if_pos (by simp)]
      exact nrel_map rv rel
def sNPutA (P : Program) (w : World) (td ty tv : TE) : TS := fun D σ H => tv σ H fun v H1 => td σ H1 fun x H2 => ty σ H2 fun y H3 => ∃ a xs k b, x = .ref a ∧ ND P w H3 a xs ∧ y = .ref b ∧ KeyN H3 y k ∧ xs.length < sizeLine ∧ D.nx σ (upd H3 a (NDO P w a (putN xs k b v)))
theorem ps_ndputA {P : Program} {w : World} (hP : X.prog = P) (hw : X.w = w) {o i value : Expr} {td ty tv : TE} {pos pos' : Pos} (hu : X.A.units + 64 < cLine) (ho : PE X o td) (hi : PE X i ty) (hv : PE X value tv) (hs : swapsWith value (some (.Subscript o i pos')) pos.line X.env = pure false) :
    PS X (.Assign [.Subscript o i pos'] value pos) (sNPutA P w td ty tv) := by
  subst hP hw
  constructor
  intro pins s σ H D I h
  refine wpAny_Assign_Subscript (thn (hv.run pins s σ H _ I h) ?_) hs
  rintro r s1 ⟨v, H1, I1, rv, q1⟩
  refine thn (ho.run pins s1 σ H1 _ I1 q1) ?_
  rintro u s2 ⟨x, H2, I2, rx, q2⟩
  refine thn (hi.run pins s2 σ H2 _ I2 q2) ?_
  rintro iv s3 ⟨y, H3, I3, ry, a, xs, k, b, rfl, hn, rfl, hk, hl, q3⟩
  obtain rfl : u = Value.ref a := rx
  obtain ⟨b', rfl, eb, hb⟩ := nd_at I3 hk ry
  obtain rfl : b = b' := V.ref.inj eb
  obtain ⟨_, hd, ys, rel, dd⟩ := hn.full I3
  have hz : ys.length ≤ sizeLine := by
    have := awLen rel
    omega
  exact wpAny_setItem_heap (knd := nestedKind X.prog X.w) (hsz := hz) (show X.A.in1.units + 8 < cLine by show X.A.units + 1 + 8 < cLine; omega) hb dd fun h' dd' hs' => ⟨σ, _, nd_writeA I3 hn hl rel hd rv dd' hs', q3⟩
theorem nd_putA {P : Program} {w : World} {H : Hp} {a b : Addr} {xs : List NE} {k : NestedKey} {v : V} (h : ND P w H a xs) (hk : KeyN H (.ref b) k) : ND P w (upd H a (NDO P w a (putN xs k b v))) a (putN xs k b v) := by
  have tt : TupsStay H (upd H a (NDO P w a (putN xs k b v))) := fun c ys e => by
    rw [upd_ne (ne_of e h.ob (fun z => nomatch z))]
    exact e
  refine ⟨upd_same, fun p hp => ?_⟩
  unfold putN at hp
  split at hp
  · obtain ⟨x, hx, rfl⟩ := List.mem_map.mp hp
    split
    · exact ⟨nk_stay tt _ _ (h.ks x hx).1, (h.ks x hx).2⟩
    · exact ⟨nk_stay tt _ _ (h.ks x hx).1, (h.ks x hx).2⟩
  · rcases List.mem_append.mp hp with hp | hp
    · exact ⟨nk_stay tt _ _ (h.ks p hp).1, (h.ks p hp).2⟩
    · rw [List.mem_singleton.mp hp]
      exact ⟨nk_stay tt _ _ hk.1, hk.2.1⟩
/-! the keys, walked while the dict is locked -/
theorem nd_frz {pins : List (Addr × Obj)} {σ : L2.St} {H : Hp} {s : Shared} {d : Addr} {o : Obj} {xs : List NE} (I : Inv X pins σ H s) (h : H d = some (.frz o (NDO X.prog X.w d xs))) :
    (d == sysModules) = false ∧ s.heap.get? d = some o ∧ o.ExactDict ∧ ∃ (es : Array DictEntry) (ep : Nat), o.data = .dict es ep ∧ es.size = xs.length ∧ ∀ (i : Nat) (p : NE), xs[i]? = some p → ∃ en : DictEntry, es[i]? = some en ∧ en.key = .ref p.2.1 ∧ RelV p.2.2 en.val := by
  obtain ⟨hg, ⟨z1, z2, ys, z3, o', es, ep, z4, z5, z6, z7, z8⟩, _⟩ := I.hok d _ h
  obtain rfl : o' = o := Option.some.inj (z4.symm.trans hg)
  have l1 : es.size = ys.length := size_of_entries z7
  refine ⟨z2, hg, z5, es, ep, z6, l1.trans (awLen z3).symm, fun i p hp => ?_⟩
  obtain ⟨y, hy, e1, e2, e3⟩ := awGet z3 hp
  have e : es.toList[i]? = some (entryOfKey (nestedKind X.prog X.w) y) := by
    rw [z7, List.getElem?_map, hy]
    rfl
  rw [Array.getElem?_toList] at e
  refine ⟨_, e, ?_, e3⟩
  rw [e2]
  rfl
def ItN (P : Program) (w : World) (d : Addr) (o : Obj) (xs : List NE) : It :=
  ⟨fun i H => H d = some (.frz o (NDO P w d xs)) ∧ i < xs.length, fun i H x H' => H' = H ∧ ∃ p, xs[i]? = some p ∧ x = .ref p.2.1, fun i H => H d = some (.frz o (NDO P w d xs)) ∧ xs.length ≤ i⟩
theorem turn_N {d : Addr} {o : Obj} {xs : List NE} {tg : Expr} (it : Addr) {ep : Nat} {es : Array DictEntry} (hod : o.data = .dict es ep) : Turn P w K tg (ItN P w d o xs) [it] it (fun i h => h.IsKeyIter it d i xs.length ep) where
  mem := by simp
  obj := fun i h st b hb => by
    have e : b = it := by simpa using hb
    subst e
    obtain ⟨oi, e, c, dd⟩ := st
    exact ⟨oi, e, fun v z => by rw [dd] at z; cases z⟩
  keep := fun i h h' st k => st.at fun oi e => k it (by simp) oi e
  item := by
    intro X hP hw hK hc i pins s σ H E I hf st hg
    subst hP hw hK
    obtain ⟨hd, hi⟩ := hg
    obtain ⟨f0, f1, f2, f3, f4, f5⟩ := hf it (by simp)
    obtain ⟨hs, hgd, hx, es', ep', hdt, hsz, ent⟩ := nd_frz I hd
    obtain ⟨rfl, rfl⟩ := dict_ep hod hdt
    obtain ⟨p, hkv⟩ : ∃ p, xs[i]? = some p := ⟨xs[i], List.getElem?_eq_getElem hi⟩
    obtain ⟨en, hen, hkey, _⟩ := ent i p hkv
    refine next_key_item st hgd hdt hsz hen fun h' st' sb => ?_
    have I1 : Inv X pins σ H { s with heap := h' } := I.turned (t' := s.toks) (fun b ob hb e => (sb.2 b hb).trans e) f0 f1 f3 f4 f5
    obtain ⟨oi, e, c, dd⟩ := id st'
    exact ⟨en.key, rfl, go_of (s := { s with heap := h' }) e c dd (by decide) ⟨.ref p.2.1, H, I1, hkey, ⟨rfl, p, hkv, rfl⟩, st', fun b hb => (hf b hb).1⟩⟩
  done := by
    intro X hP hw hK hc i pins s σ H E I hf st hg
    subst hP hw hK
    obtain ⟨hd, hi⟩ := hg
    obtain ⟨f0, f1, f2, f3, f4, f5⟩ := hf it (by simp)
    obtain ⟨hs, hgd, hx, es', ep', hdt, hsz, ent⟩ := nd_frz I hd
    obtain ⟨rfl, rfl⟩ := dict_ep hod hdt
    exact next_key_end (I.ok.hd hc) st hgd hdt hsz hi fun h' eb => ⟨rfl, I.turned (t' := s.toks) (fun b ob hb e => eb b ob hb e) f0 f1 f3 f4 f5⟩
  self := fun A i s Q E st h => by
    refine wpAny_pyIter_slot st.typeIs F.slot_dict_keyiterator_iter (wpAny_call_entry F.slot_dict_keyiterator_iter st.typeIs F.entry_dict_keyiterator_iter ?_ (F.args_dict_keyiterator_iter_1 _))
    show wpAny _ _ (ret (.ref it)) _ _ s
    exact wpAny_pure ⟨_, rfl, "dict_keyiterator", _, st.typeIs, F.slot_dict_keyiterator_next.lookup, h⟩
def iKeysN (P : Program) (w : World) (td : TE) : TI := fun σ H R => td σ H fun x H1 => ∃ d o xs, x = .ref d ∧ H1 d = some (.frz o (NDO P w d xs)) ∧ R (ItN P w d o xs) H1
theorem pi_keysN {P : Program} {w : World} (hP : X.prog = P) (hw : X.w = w) {tg e : Expr} {td : TE} (he : PE X e td) : PI X tg e (iKeysN P w td) := by
  subst hP hw
  refine ⟨fun pins s σ H R I h => ?_⟩
  refine thn (he.run pins s σ H _ I h) ?_
  rintro u s1 ⟨x, H1, I1, rx, d, o, xs, rfl, hd, q⟩
  obtain rfl : u = Value.ref d := rx
  obtain ⟨hs, hgd, hx, es, ep, hdt, hsz, ent⟩ := nd_frz I1 hd
  refine iter_keys hs hgd hx hdt (pi_one (tk := s1.toks) I1 _ (turn_N _ hdt) ⟨_, Heap.get?_push_size _ rfl, rfl, ?_⟩ q)
  rw [hsz] <;> rfl
theorem walk_N {P : Program} {w : World} {d : Addr} {o : Obj} {xs : List NE} : Walk (ItN P w d o xs) xs.length (fun H => H d = some (.frz o (NDO P w d xs))) (fun i H x H' => H' = H ∧ ∃ p, xs[i]? = some p ∧ x = .ref p.2.1) :=
  ⟨fun _ _ hi q => ⟨q, hi⟩, fun _ q => ⟨q, Nat.le_refl _⟩, fun _ _ _ _ _ _ y => y⟩
/-! d.values(), and their sum -/
theorem nd_raw {pins : List (Addr × Obj)} {σ : L2.St} {H : Hp} {s : Shared} {d : Addr} {xs : List NE} (I : Inv X pins σ H s) (h : H d = some (NDO X.prog X.w d xs)) :
    (d == sysModules) = false ∧ ∃ es ep, s.heap.DictRaw d es ep ∧ es.size = xs.length ∧ ∀ (i : Nat) (hi : i < es.size), ∃ p, xs[i]? = some p ∧ RelV p.2.2 es[i].val := by
  obtain ⟨⟨z1, z2, ys, z3, o, es, ep, z4, z5, z6, z7, z8⟩, _⟩ := I.hok d _ h
  have l1 : es.size = ys.length := size_of_entries z7
  refine ⟨z2, es, ep, ⟨o, z4, z5, z6⟩, l1.trans (awLen z3).symm, fun i hi => ?_⟩
  have hi2 : i < ys.length := by omega
  obtain ⟨p, h1, _, _, h4⟩ := awGet2 z3 (List.getElem?_eq_getElem hi2)
  have e : es.toList[i]? = some (entryOfKey (nestedKind X.prog X.w) ys[i]) := by
    rw [z7, List.getElem?_map, List.getElem?_eq_getElem hi2]
    rfl
  have e2 : es[i] = entryOfKey (nestedKind X.prog X.w) ys[i] := by
    rw [Array.getElem?_toList, Array.getElem?_eq_getElem hi] at e
    exact Option.some.inj e
  refine ⟨p, h1, ?_⟩
  rw [e2]
  exact h4
def tNVals (P : Program) (w : World) (td : TE) : TE := fun σ H Q => td σ H fun x H1 => ∃ a xs, x = .ref a ∧ H1 a = some (NDO P w a xs) ∧ ∀ p, H1 p = none → Q (.ref p) (upd H1 p (valsO p a))
theorem pe_nvals {P : Program} {w : World} (hP : X.prog = P) (hw : X.w = w) {o : Expr} {td : TE} {apos cpos : Pos} (ho : PE X o td) (hbase : attributeBase o "values" X.env (eval o X.env) = eval o X.env := by rfl) (hline : (apos.endLine == cpos.line) = true := by rfl) : PE X (.Call (.Attribute o "values" apos) [] [] cpos) (tNVals P w td) := by
  subst hP hw
  refine ⟨fun pins s σ H Q I h => ?_⟩
  refine wpAny_Call_method0_late hbase hline (thn (ho.run pins s σ H _ I h) ?_)
  rintro v s1 ⟨x, H1, I1, r1, a, xs, rfl, ha, q1⟩
  obtain rfl : v = Value.ref a := r1
  obtain ⟨hs, es, ep, raw, _⟩ := nd_raw I1 ha
  have raw' := raw
  obtain ⟨o', ho', hx', hdt'⟩ := raw'
  refine ⟨"dict", "dict.values", F.plainAttrs_dict, F.slot_dict_values, F.type_dict_values, raw.typeIs, fun b z => ⟨o', by cases z; exact ho', hx'.2.1⟩, Calls.callWith_builtin rfl (PySem.evalArgs_none ?_)⟩
  refine call_meetsIn F.slot_dict_values raw.typeIs F.entry_dict_values (F.args_dict_values_1 _) (meets_dict_values_raw a hs) ⟨⟨es, ep, raw⟩, ?_⟩
  have I2 := I1.laid (o := valsO s1.heap.objs.size a) (t' := s1.toks) (fun b u z => Heap.get?_push_of_some _ z) (Nat.le_refl _) (valsO_ok (H := upd H1 s1.heap.objs.size (valsO s1.heap.objs.size a)) (Heap.get?_push_size _ rfl))
  exact ⟨.ref _, _, I2, rfl, q1 _ (I1.hok.fresh (Nat.le_refl _))⟩
theorem preSumN {val : Nat → Int} (zs : List Int) (h : ∀ i, i < zs.length → val i = zs.getD i 0) : preSum val zs.length = zs.sum := by
  have key : ∀ n, n ≤ zs.length → preSum val n = (zs.take n).sum := by
    intro n
    induction n with
    | zero => intro _; simp [preSum]
    | succ n ih =>
      intro hn
      have hl : n < zs.length := by omega
      rw [show preSum val (n + 1) = preSum val n + val n from rfl, ih (by omega), h n hl, List.take_add_one, List.getElem?_eq_getElem hl, List.getD_eq_getElem?_getD, List.getElem?_eq_getElem hl]
      show _ + zs[n] = (List.take n zs ++ [zs[n]]).sum
      rw [List.sum_append]
      simp only [List.sum_cons, List.sum_nil, Int.add_zero]
  rw [key _ (Nat.le_refl _), List.take_length]
def rSumN (P : Program) (w : World) : List V → Hp → VK → Prop := fun vs H Q => ∃ (p a : Addr) (xs : List NE) (zs : List Int), vs = [.ref p] ∧ H p = some (valsO p a) ∧ H a = some (NDO P w a xs) ∧ xs.map (·.2.2) = zs.map V.int ∧ Q (.int zs.sum) H
theorem call_sumN {P : Program} {w : World} (hP : X.prog = P) (hw : X.w = w) (hc : X.calm = true) : CallR X (.builtin "sum") (rSumN P w) := by
  subst hP hw
  intro pins s σ H vs us Q I r h
  obtain ⟨p, a, xs, zs, rfl, hp, ha, hz, q⟩ := h
  obtain ⟨u, rfl, ru⟩ := vals1 r
  obtain rfl : u = Value.ref p := ru
  obtain ⟨hs, es, ep, raw, sz, ent⟩ := nd_raw I ha
  have hv : s.heap.IsValuesView p a := (I.hok p _ hp).1
  have zl : zs.length = es.size := by
    have := congrArg List.length hz
    rw [List.length_map, List.length_map] at this
    omega
  have la : a < s.heap.objs.size := raw.elim fun o z => Heap.lt_size z.1
  refine call_sum_walkAnyS (wpAny_pyIter_values_raw hv raw ?_)
  have rel : ∀ i v, (∃ hi : i < es.size, v = es[i].val) → ∃ t, v = .int (zs.getD i 0) t := by
    rintro i v ⟨hi, rfl⟩
    obtain ⟨x, hkv, rv⟩ := ent i hi
    have e : (xs.map (·.2.2))[i]? = some x.2.2 := by rw [List.getElem?_map, hkv]; rfl
    rw [hz, List.getElem?_map] at e
    cases e2 : zs[i]? with
    | none => rw [e2] at e; cases e
    | some z =>
      rw [e2] at e
      have e3 : V.int z = x.2.2 := Option.some.inj e
      rw [← e3] at rv
      rw [List.getD_eq_getElem?_getD, e2]
      exact rv
  refine ⟨s.heap.objs.size, [s.heap.objs.size, a], [s.heap.objs.size], _, es.size, _, _, fun i => zs.getD i 0, rfl, (Walks.rawValues (A := X.A.in1) (I.ok.hd hc) _ a (Nat.ne_of_lt la) es ep).toS, ?_, ?_, rel, ?_⟩
  · exact ⟨⟨_, Heap.get?_push_size _ rfl, rfl, rfl⟩, raw.at fun o z => Heap.get?_push_of_some _ z⟩
  · intro b hb
    show b < (s.heap.push _).objs.size
    rw [Heap.size_push]
    simp only [List.mem_cons, List.not_mem_nil, or_false] at hb
    rcases hb with rfl | rfl
    · exact Nat.lt_succ_self _
    · exact Nat.lt_succ_of_lt la
  · intro s' t' hm
    have hk : ∀ b o, s.heap.get? b = some o → s'.heap.get? b = some o := fun b o e =>
      hm.heap b o (fun hI => absurd (Heap.lt_size e) (by rw [List.mem_singleton.mp hI]; exact Nat.lt_irrefl _)) (Heap.get?_push_of_some _ e)
    rw [Moved.eq_with hm]
    refine ⟨.int zs.sum, H, I.kept (t' := s'.toks) hk, ⟨t', ?_⟩, q⟩
    rw [← zl, preSumN zs fun i _ => rfl]
end nd2
/-! ### pairs of carries: _law_behind -/
def kP (c1 c2 : List Int) : NestedKey := .tup [kC c1, kC c2]
theorem kP_inj {a b c d : List Int} (h : kP a b = kP c d) : a = c ∧ b = d := by
  have h1 := NestedKey.tup.inj h
  rw [List.cons.injEq, List.cons.injEq] at h1
  exact ⟨kC_inj h1.1, kC_inj h1.2.1⟩
abbrev PC := List Int × List Int
def PrC (H : Hp) (p : Addr) (q : PC) : Prop := ∃ A B, H p = some (.tup [.ref A, .ref B]) ∧ H A = some (.tup (q.1.map V.int)) ∧ H B = some (.tup (q.2.map V.int))
theorem PrC.stay {H H' : Hp} {p : Addr} {q : PC} (h : PrC H p q) (t : TupsStay H H') : PrC H' p q := by
  obtain ⟨A, B, e1, e2, e3⟩ := h
  exact ⟨A, B, t _ _ e1, t _ _ e2, t _ _ e3⟩
theorem keyP {H : Hp} {T : Addr} {q : PC} (h : PrC H T q) : KeyN H (.ref T) (kP q.1 q.2) := by
  obtain ⟨A, B, e1, e2, e3⟩ := h
  refine ⟨.tup e1 (.cons (keyC e2).1 (.cons (keyC e3).1 .nil)), ?_, T, rfl⟩
  unfold kP kC
  simp [NestedKey.depth, NestedKey.depthAll, nums_depth]
theorem kC_at {H : Hp} {v : V} {c : List Int} (h : NkAt H (kC c) v) : ∃ A, v = .ref A ∧ H A = some (.tup (c.map V.int)) := by
  unfold kC at h
  cases h with
  | tup e hs => exact ⟨_, rfl, by rw [← nks_eq hs]; exact e⟩
theorem prC_of {H : Hp} {T : Addr} {q : PC} (h : NkAt H (kP q.1 q.2) (.ref T)) : PrC H T q := by
  unfold kP at h
  cases h with
  | tup e hs =>
    cases hs with
    | cons h1 h2 =>
      cases h2 with
      | cons h3 h4 =>
        cases h4
        obtain ⟨A, rfl, eA⟩ := kC_at h1
        obtain ⟨B, rfl, eB⟩ := kC_at h3
        exact ⟨A, B, e, eA, eB⟩
abbrev PtAt (H : Hp) : List Addr → List PC → Prop := Paired (PrC H)
theorem ptat_stay {H H' : Hp} (t : TupsStay H H') {qs : List Addr} {l : List PC} (h : PtAt H qs l) : PtAt H' qs l := awMap (fun _ _ e => e.stay t) h
def bh2 (m : Nat) (ds1 : List Deed) (o1 : Int) (ds2 : List Deed) (o2 : Int) (q : PC) : List PC := ((allB m).filter fun bs => decide (ob ds1 o1 q.1 bs = ob ds2 o2 q.2 bs)).map fun bs => (nc ds1 q.1 bs, nc ds2 q.2 bs)
structure PcOk (ds1 ds2 : List Deed) (q : PC) : Prop where
  l1 : q.1.length = ds1.length
  b1 : ∀ x ∈ q.1, Bit x
  l2 : q.2.length = ds2.length
  b2 : ∀ x ∈ q.2, Bit x
theorem bh2_ok {m : Nat} {ds1 ds2 : List Deed} {o1 o2 : Int} {q : PC} (h : PcOk ds1 ds2 q) : ∀ x ∈ bh2 m ds1 o1 ds2 o2 q, PcOk ds1 ds2 x := by
  intro x hx
  obtain ⟨bs, h1, rfl⟩ := List.mem_map.mp hx
  have h3 := (allB_ok m bs (List.mem_filter.mp h1).1).2
  exact ⟨nxt_len h.l1.symm, nxt_bits (bts_bits h3 h.b1) h.b1, nxt_len h.l2.symm, nxt_bits (bts_bits h3 h.b2) h.b2⟩
theorem bh2_len {m : Nat} {ds1 ds2 : List Deed} {o1 o2 : Int} {q : PC} (m3 : m ≤ 3) : (bh2 m ds1 o1 ds2 o2 q).length ≤ 8 := by
  unfold bh2
  rw [List.length_map]
  refine Nat.le_trans (List.length_filter_le _ _) ?_
  rw [allB_len]
  exact Nat.le_trans (Nat.pow_le_pow_right (by decide) m3) (by decide)
def spBh : Sp := fun vs H Q _ => ∃ (R1 R2 T : Addr) (m : Nat) (o1 o2 : Int) (ds1 ds2 : List Deed) (q : PC), vs = [.ref R1, .ref R2, .ref T] ∧ RowAt H R1 m ds1 o1 ∧ RowOk m ds1 o1 ∧ RowAt H R2 m ds2 o2 ∧ RowOk m ds2 o2 ∧ PrC H T q ∧ PcOk ds1 ds2 q ∧
  ∀ H' L qs, Same H H' → H' L = some (.lst (qs.map V.ref)) → PtAt H' qs (bh2 m ds1 o1 ds2 o2 q) → Q (.ref L) H'
set_option maxHeartbeats 1000000 in
theorem ok_bh {f fL fC : Addr} {fd fdL fdC : FuncData} {k : Nat} (F : Fun K "_law_behind" "_law_behind" s_law_behind f fd)
    (GL : FnOk P w K mg base CX0 (k + 1) fL fdL ["row", "carry", "bits"] spL1) (kL : PySem.W.keepIn K (.ref fL) = true) (bL : Binds K fdL ["row", "carry", "bits"] []) (gL : mg "_law_step" = some (.ref fL))
    (GC : FnOk P w K mg base CX0 (k + 1) fC fdC ["many"] spCh) (kC' : PySem.W.keepIn K (.ref fC) = true) (bC : Binds K fdC ["many"] []) (gC : mg "_law_choices" = some (.ref fC)) :
    FnOk P w K mg base CX0 (k + 2) f fd ["row", "other", "pair"] spBh := by
  refine F.ok sc_law_behind (fun vs H Q E h => ?_) (fun cdv A outer s H vs Q E hr h => ?_)
  · obtain ⟨R1, R2, T, m, o1, o2, ds1, ds2, q, rfl, _⟩ := h
    rfl
  · obtain ⟨R1, R2, T, m, o1, o2, ds1, ds2, q, rfl, hr1, ok1, hr2, ok2, ⟨C1, C2, eT, eC1, eC2⟩, pok, qq⟩ := h
    refine ⟨_, pss_cons (ps_set (i := 3) sc_law_behind.nd rfl (.inl rfl) (pe_lst pa_nil))
      (pss_cons (ps_for PassesOwn.never rfl (pi_list (pe_call GC hr (by rfl) gC kC' bC .nil pass0 (pa_cons (pe_ix ix_tup (pv 0) pe_int (fun _ _ => rfl)) pa_nil))) (pg_name (i := 4) sc_law_behind.nd rfl (.inl rfl))
        (pss_cons (ps_set (i := 5) sc_law_behind.nd rfl (.inl rfl) (pe_call GL hr (by rfl) gL kL bL .nil pass0 (pa_cons (pv 0) (pa_cons (pe_ix ix_tup (pv 2) pe_int (fun _ _ => rfl)) (pa_cons (pv 4) pa_nil)))))
        (pss_cons (ps_set (i := 6) sc_law_behind.nd rfl (.inl rfl) (pe_call GL hr (by rfl) gL kL bL .nil pass0 (pa_cons (pv 1) (pa_cons (pe_ix ix_tup (pv 2) pe_int (fun _ _ => rfl)) (pa_cons (pv 4) pa_nil)))))
        (pss_one (ps_if (pt_cmpR op_eq (pe_ix ix_list (pe_ix ix_tup (pv 5) pe_int (fun _ _ => rfl)) (pe_ix ix_tup (pv 0) pe_int (fun _ _ => rfl)) (fun _ _ => rfl)) (pe_ix ix_list (pe_ix ix_tup (pv 6) pe_int (fun _ _ => rfl)) (pe_ix ix_tup (pv 1) pe_int (fun _ _ => rfl)) (fun _ _ => rfl)) (nomark _))
          (pss_one (ps_expr (pe_bm PySem.F.plainAttrs_list PySem.F.slot_list_append PySem.F.type_list_append mt_append (pv 3) (pa_cons (pe_tup (pa_cons (pe_ix ix_tup (pv 5) pe_int (fun _ _ => rfl)) (pa_cons (pe_ix ix_tup (pv 6) pe_int (fun _ _ => rfl)) pa_nil))) pa_nil)))) pss_nil)))))
      (pss_one (ps_ret (pv 3)))), ?_⟩
    have m3 := ok1.m3
    have m3' : m ≤ 3 := by omega
    have p0 := ok1.o0
    have p1 := ok1.o1
    have q0 := ok2.o0
    have q1 := ok2.o1
    refine ⟨Nat.zero_le _, fun Fd hFd => ?_⟩
    have sF := same_new (o := .lst []) hFd
    obtain ⟨D1, rs1, eR1, _, _⟩ := id hr1
    refine ⟨.ref R1, rfl, R1, _, 0, .int m, rfl, rfl, SqT.of (sF _ _ eR1), row0, m, rfl, m3', fun H2 L2 fs s2 eL2 hf => ?_⟩
    have lf := awLen hf
    rw [allB_len] at lf
    have p8 : 2 ^ m ≤ 8 := Nat.le_trans (Nat.pow_le_pow_right (by decide) m3') (by decide)
    have eF2 := s2 _ _ (show upd H Fd (.lst []) Fd = some (.lst []) from upd_same)
    refine ⟨L2, rfl, ⟨_, .inl (.inl eL2)⟩, for_list (K := K) (a := L2) (xs := fs.map V.ref) (fun j σ H3 => ∃ y4 y5 y6 qs, σ = [some (.ref R1), some (.ref R2), some (.ref T), some (.ref Fd), y4, y5, y6] ∧ H3 Fd = some (.lst (qs.map V.ref)) ∧ PtAt H3 qs ((((allB m).take j).filter fun bs => decide (ob ds1 o1 q.1 bs = ob ds2 o2 q.2 bs)).map fun bs => (nc ds1 q.1 bs, nc ds2 q.2 bs)) ∧ ∀ b u, b ≠ Fd → H2 b = some u → H3 b = some u)
      ⟨none, none, none, [], rfl, eF2, .nil, fun _ _ _ e => e⟩ (fun j σ H3 _ hp => ?_) (fun j x σ H3 hx hp => ?_) (fun σ H3 hp => ?_)⟩
    · obtain ⟨_, _, _, _, _, _, _, st⟩ := hp
      refine .inl (.inl (st _ _ (fun z => ?_) eL2))
      rw [z, eF2] at eL2
      have e := HO.lst.inj (Option.some.inj eL2)
      have : (fs.map V.ref).length = 0 := by rw [← e]; rfl
      rw [List.length_map, lf] at this
      exact absurd this (Nat.pos_iff_ne_zero.mp (Nat.pow_pos (by decide)))
    · obtain ⟨y4, y5, y6, qs, rfl, eF, hq, st⟩ := hp
      rw [List.getElem?_map] at hx
      obtain ⟨fa, hfa, rfl⟩ := Option.map_eq_some_iff.mp hx
      obtain ⟨bs, hbs, hfb⟩ := awGet hf hfa
      have hfb' : H2 fa = some (.tup (bs.map V.int)) := hfb
      obtain ⟨bl, bb⟩ := allB_ok m bs (List.mem_of_getElem? hbs)
      have t3 : TupsStay H2 H3 := fun b ys z => st _ _ (ne_of z eF2 (fun y => nomatch y)) z
      have tH : TupsStay H H3 := (Same.tups (sF.trans s2)).trans t3
      have row1 := tH.row hr1
      have row2 := tH.row hr2
      have eT3 := tH _ _ eT
      refine ⟨.ref R1, rfl, .ref T, rfl, T, _, 0, .ref C1, rfl, rfl, SqT.of eT3, rfl, .ref fa, rfl, R1, C1, fa, m, o1, ds1, q.1, bs, rfl, row1, ok1, tH _ _ eC1, pok.l1, t3 _ _ hfb', bl, pok.b1, bb, fun H4 h1 A1 B1 s4 nA1 eh1 eA1 eB1 => ?_⟩
      refine ⟨.ref R2, rfl, .ref T, rfl, T, _, 1, .ref C2, rfl, rfl, SqT.of (s4 _ _ eT3), rfl, .ref fa, rfl, R2, C2, fa, m, o2, ds2, q.2, bs, rfl, (Same.tups s4).row row2, ok2, s4 _ _ (tH _ _ eC2), pok.l2, s4 _ _ (t3 _ _ hfb'), bl, pok.b2, bb, fun H5 h2 A2 B2 s5 nA2 eh2 eA2 eB2 => ?_⟩
      have bt1 : (bts ds1 q.1 bs).length = m + ds1.length := by rw [bts_len pok.l1.symm, bl]
      have bt2 : (bts ds2 q.2 bs).length = m + ds2.length := by rw [bts_len pok.l2.symm, bl]
      have eh1' := s5 _ _ eh1
      obtain ⟨Da, ra, eRa, _, _⟩ := id ((Same.tups (s4.trans s5)).row row1)
      obtain ⟨Db, rb, eRb, _, _⟩ := id ((Same.tups (s4.trans s5)).row row2)
      have jl := (List.getElem?_eq_some_iff.mp hbs).1
      rw [allB_len] at jl
      have lq := Nat.le_trans (Nat.le_of_eq (awLen hq)) (by rw [List.length_map]; exact Nat.le_trans (List.length_filter_le _ _) (by rw [List.length_take]; exact Nat.min_le_left _ _))
      refine ⟨.ref h1, rfl, h1, _, 0, .ref A1, rfl, rfl, SqT.of eh1', rfl, .ref R1, rfl, R1, _, 2, .int o1, rfl, rfl, SqT.of eRa, rfl, A1, _, o1, .int (ob ds1 o1 q.1 bs), rfl, rfl, .inl (.inl (s5 _ _ eA1)), atI_ints p0 (by rw [bt1]; omega), ?_⟩
      refine ⟨.ref h2, rfl, h2, _, 0, .ref A2, rfl, rfl, SqT.of eh2, rfl, .ref R2, rfl, R2, _, 2, .int o2, rfl, rfl, SqT.of eRb, rfl, A2, _, o2, .int (ob ds2 o2 q.2 bs), rfl, rfl, .inl (.inl eA2), atI_ints q0 (by rw [bt2]; omega), rfl, _, rfl, ite2 (fun ev => ?_) (fun ev => ?_)⟩
      · have hw := intEq ev
        have eF5 := s5 _ _ (s4 _ _ eF)
        refine ⟨.ref Fd, rfl, .inl ⟨rfl, _, .inl (.inl eF5)⟩, .ref h1, rfl, h1, _, 1, .ref B1, rfl, rfl, SqT.of eh1', rfl, .ref h2, rfl, h2, _, 1, .ref B2, rfl, rfl, SqT.of eh2, rfl, (by show 2 ≤ sizeLine; decide), fun Tn hTn => ?_⟩
        have sTn := same_new (o := .tup [.ref B1, .ref B2]) hTn
        have eF6 := sTn _ _ eF5
        refine ⟨Fd, _, _, rfl, rfl, eF6, ?_, _, _, _, qs ++ [Tn], rfl, ?_, ?_, ?_⟩
        · rw [List.length_map]
          exact small1000 (by omega)
        · rw [upd_same, List.map_append]
          rfl
        · rw [List.take_add_one, hbs, List.filter_append, List.map_append]
          have ef : [bs].filter (fun bs => decide (ob ds1 o1 q.1 bs = ob ds2 o2 q.2 bs)) = [bs] := by
            rw [List.filter_cons, if_pos (decide_eq_true hw)]
            rfl
          show PtAt _ _ (_ ++ ([bs].filter _).map _)
          rw [ef]
          refine ptat_stay (tups_put eF6) (awSnoc (F := PrC _) ⟨B1, B2, upd_same, sTn _ _ (s5 _ _ eB1), sTn _ _ eB2⟩ (ptat_stay (Same.tups (s4.trans (s5.trans sTn))) hq))
        · intro b u nb z
          rw [upd_ne nb]
          exact sTn _ _ (s5 _ _ (s4 _ _ (st b u nb z)))
      · have hw := intNe ev
        refine ⟨_, _, _, qs, rfl, s5 _ _ (s4 _ _ eF), ?_, fun b u nb z => s5 _ _ (s4 _ _ (st b u nb z))⟩
        rw [List.take_add_one, hbs, List.filter_append, List.map_append]
        have ef : [bs].filter (fun bs => decide (ob ds1 o1 q.1 bs = ob ds2 o2 q.2 bs)) = [] := by
          rw [List.filter_cons, if_neg (by rw [decide_eq_false hw]; exact Bool.false_ne_true)]
          rfl
        show PtAt _ _ (_ ++ ([bs].filter _).map _)
        rw [ef, List.map_nil, List.append_nil]
        exact ptat_stay (Same.tups (s4.trans s5)) hq
    · obtain ⟨y4, y5, y6, qs, rfl, eF, hq, st⟩ := hp
      have fl : (fs.map V.ref).length = (allB m).length := by rw [List.length_map, lf, allB_len]
      rw [fl, List.take_length] at hq
      refine ⟨.ref Fd, rfl, qq H3 Fd qs (fun b u z => st _ _ (ne_of_none z hFd) (s2 _ _ (sF _ _ z))) eF hq⟩
/-! ### _law_counts -/
def valZ : V → Int
  | .int i => i
  | _ => 0
def unC : NestedKey → List Int
  | .tup ks => ks.map fun k => match k with | .num i => i | _ => 0
  | _ => []
def unP : NestedKey → PC
  | .tup [a, b] => (unC a, unC b)
  | _ => ([], [])
theorem unC_kC (c : List Int) : unC (kC c) = c := by
  unfold unC kC
  dsimp only
  rw [List.map_map]
  conv => rhs; rw [← List.map_id c]
  rfl
theorem unP_kP (q : PC) : unP (kP q.1 q.2) = q := by
  show (unC (kC q.1), unC (kC q.2)) = q
  rw [unC_kC, unC_kC]
def linN (F : NestedKey → Int) (xs : List NE) : Int := (xs.map fun x => valZ x.2.2 * F x.1).sum
theorem linN_append (F : NestedKey → Int) (a b : List NE) : linN F (a ++ b) = linN F a + linN F b := by
  unfold linN
  rw [List.map_append, List.sum_append]
theorem linN_put (F : NestedKey → Int) {k : NestedKey} {b : Addr} {g v : Int} {xs : List NE} (nd : (xs.map (·.1)).Nodup) (hg : (getN xs k).getD (.int 0) = .int g) : linN F (putN xs k b (.int (g + v))) = linN F xs + v * F k := by
  unfold putN
  cases eg : getN xs k with
  | none =>
    rw [eg] at hg
    have g0 : g = 0 := (V.int.inj hg).symm
    rw [if_neg (by simp), linN_append, g0, Int.zero_add]
    unfold linN
    simp [valZ]
  | some y =>
    rw [eg] at hg
    have hy : y = .int g := hg
    rw [if_pos (by simp)]
    have key : ∀ (xs : List NE), (xs.map (·.1)).Nodup → getN xs k = some y → linN F (xs.map fun x => if x.1 = k then (x.1, x.2.1, V.int (g + v)) else x) = linN F xs + v * F k := by
      intro xs
      induction xs with
      | nil => intro _ h; cases h
      | cons x xs ih =>
        intro nd hg
        rw [List.map_cons, List.nodup_cons] at nd
        unfold linN
        rw [List.map_cons, List.map_cons, List.map_cons, List.sum_cons, List.sum_cons]
        by_cases he : x.1 = k
        · have e2 : x.2.2 = .int g := by
            unfold getN at hg
            rw [List.find?_cons, decide_eq_true he] at hg
            exact (Option.some.inj hg).trans hy
          rw [if_pos he]
          have rest : (xs.map fun x => if x.1 = k then (x.1, x.2.1, V.int (g + v)) else x) = xs := by
            conv => rhs; rw [← List.map_id xs]
            refine List.map_congr_left fun z hz => if_neg fun e => nd.1 ?_
            rw [he, ← e]
            exact List.mem_map.mpr ⟨z, hz, rfl⟩
          rw [rest, e2]
          show (g + v) * F x.1 + _ = g * F x.1 + _ + _
          rw [he, Int.add_mul]
          omega
        · rw [if_neg he]
          have hg2 : getN xs k = some y := by
            unfold getN at hg ⊢
            rw [List.find?_cons, decide_eq_false he] at hg
            exact hg
          have := ih nd.2 hg2
          unfold linN at this
          rw [this]
          omega
    exact key xs nd eg
theorem putN_keys {xs : List NE} {k : NestedKey} {b : Addr} {v : V} : (putN xs k b v).map (·.1) = if (getN xs k).isSome = true then xs.map (·.1) else xs.map (·.1) ++ [k] := by
  unfold putN
  split
  · rw [List.map_map]
    refine List.map_congr_left fun x _ => ?_
    show (if x.1 = k then (x.1, x.2.1, v) else x).1 = x.1
    split <;> rfl
  · rw [List.map_append]
    rfl
theorem putN_nodup {xs : List NE} {k : NestedKey} {b : Addr} {v : V} (h : (xs.map (·.1)).Nodup) : ((putN xs k b v).map (·.1)).Nodup := by
  rw [putN_keys]
  split
  · exact h
  · rename_i hn
    have e : getN xs k = none := by
      cases e : getN xs k with
      | none => rfl
      | some y => rw [e] at hn; exact absurd rfl hn
    refine List.nodup_append.mpr ⟨h, List.nodup_cons.mpr ⟨(fun z => nomatch z), List.nodup_nil⟩, fun a ha c hc => ?_⟩
    rw [List.mem_singleton.mp hc]
    obtain ⟨x, hx, rfl⟩ := List.mem_map.mp ha
    exact getN_none.mp e x hx
structure WOk (ds1 ds2 : List Deed) (xs : List NE) : Prop where
  nd : (xs.map (·.1)).Nodup
  each : ∀ x ∈ xs, ∃ (q : PC) (z : Int), x.1 = kP q.1 q.2 ∧ x.2.2 = .int z ∧ PcOk ds1 ds2 q
theorem wok_put {ds1 ds2 : List Deed} {xs : List NE} {q : PC} {b : Addr} {z : Int} (h : WOk ds1 ds2 xs) (hq : PcOk ds1 ds2 q) : WOk ds1 ds2 (putN xs (kP q.1 q.2) b (.int z)) := by
  refine ⟨putN_nodup h.nd, fun x hx => ?_⟩
  unfold putN at hx
  split at hx
  · obtain ⟨y, hy, rfl⟩ := List.mem_map.mp hx
    split
    · rename_i e
      exact ⟨q, z, e, rfl, hq⟩
    · exact h.each y hy
  · rcases List.mem_append.mp hx with hx | hx
    · exact h.each x hx
    · rw [List.mem_singleton.mp hx]
      exact ⟨q, z, rfl, rfl, hq⟩
theorem wok_len {ds1 ds2 : List Deed} {xs : List NE} (h : WOk ds1 ds2 xs) (h8 : ds1.length + ds2.length ≤ 8) : xs.length ≤ 256 := by
  have key := few_keys (α := Nat) (n := ds1.length + ds2.length) (es := xs.map fun x => ((unP x.1).1 ++ (unP x.1).2, 0)) ?_ (fun e he => ?_) h8
  · rw [List.length_map] at key
    exact key
  · rw [List.map_map]
    have nd := h.nd
    unfold List.Nodup at nd ⊢
    rw [List.pairwise_map] at nd ⊢
    refine List.Pairwise.imp_of_mem (fun {x y} hx hy hne e => hne ?_) nd
    obtain ⟨q, z, e1, _, k1⟩ := h.each x hx
    obtain ⟨q', z', e2, _, k2⟩ := h.each y hy
    have e' : (unP x.1).1 ++ (unP x.1).2 = (unP y.1).1 ++ (unP y.1).2 := e
    rw [e1, e2, unP_kP, unP_kP] at e'
    obtain ⟨a1, a2⟩ := List.append_inj e' (by rw [k1.l1, k2.l1])
    rw [e1, e2, a1, a2]
  · obtain ⟨x, hx, rfl⟩ := List.mem_map.mp he
    obtain ⟨q, z, e1, _, k1⟩ := h.each x hx
    show ((unP x.1).1 ++ (unP x.1).2).length = _ ∧ ∀ y ∈ (unP x.1).1 ++ (unP x.1).2, Bit y
    rw [e1, unP_kP]
    refine ⟨by rw [List.length_append, k1.l1, k1.l2], fun y hy => ?_⟩
    rcases List.mem_append.mp hy with hy | hy
    · exact k1.b1 y hy
    · exact k1.b2 y hy
theorem wok_get {ds1 ds2 : List Deed} {xs : List NE} (h : WOk ds1 ds2 xs) (k : NestedKey) : ∃ g, (getN xs k).getD (.int 0) = .int g := by
  cases e : getN xs k with
  | none => exact ⟨0, rfl⟩
  | some y =>
    obtain ⟨b, hb⟩ := getN_some e
    obtain ⟨_, z, _, hz, _⟩ := h.each _ hb
    exact ⟨z, hz⟩
theorem getN_of {xs : List NE} {x : NE} (nd : (xs.map (·.1)).Nodup) (hx : x ∈ xs) : getN xs x.1 = some x.2.2 := by
  induction xs with
  | nil => cases hx
  | cons y xs ih =>
    rw [List.map_cons, List.nodup_cons] at nd
    unfold getN
    rw [List.find?_cons]
    rcases List.mem_cons.mp hx with rfl | hx
    · rw [decide_eq_true rfl]
      rfl
    · have ne : ¬ y.1 = x.1 := fun e => nd.1 (by rw [e]; exact List.mem_map.mpr ⟨x, hx, rfl⟩)
      rw [decide_eq_false ne]
      exact ih nd.2 hx
/-- what comes of one pair, so often -/
def cntK (m : Nat) (ds1 : List Deed) (o1 : Int) (ds2 : List Deed) (o2 : Int) (n : Nat) (k : NestedKey) : Int := (cnt m ds1 o1 ds2 o2 n (unP k).1 (unP k).2 : Nat)
theorem cntK_next (m : Nat) (ds1 : List Deed) (o1 : Int) (ds2 : List Deed) (o2 : Int) (n : Nat) (q : PC) : ((bh2 m ds1 o1 ds2 o2 q).map fun r => cntK m ds1 o1 ds2 o2 n (kP r.1 r.2)).sum = cntK m ds1 o1 ds2 o2 (n + 1) (kP q.1 q.2) := by
  unfold cntK
  rw [unP_kP]
  show _ = ((((allB m).map fun bs => if ob ds1 o1 q.1 bs = ob ds2 o2 q.2 bs then cnt m ds1 o1 ds2 o2 n (nc ds1 q.1 bs) (nc ds2 q.2 bs) else 0).sum : Nat) : Int)
  unfold bh2
  generalize allB m = L
  induction L with
  | nil => rfl
  | cons bs L ih =>
    rw [List.filter_cons, List.map_cons, List.sum_cons, Int.natCast_add, ← ih]
    by_cases h : ob ds1 o1 q.1 bs = ob ds2 o2 q.2 bs
    · rw [if_pos (decide_eq_true h), if_pos h, List.map_cons, List.map_cons, List.sum_cons, unP_kP]
    · rw [if_neg (by rw [decide_eq_false h]; exact Bool.false_ne_true), if_neg h]
      show _ = ((0 : Nat) : Int) + _
      omega
def KnP (H : Hp) (m : Nat) (ds1 : List Deed) (o1 : Int) (ds2 : List Deed) (o2 : Int) (xs : List NE) : Prop := ∀ p ∈ xs, ∃ (r : PC) (q : Addr) (qs : List Addr), p.1 = kP r.1 r.2 ∧ p.2.2 = .ref q ∧ H q = some (.lst (qs.map V.ref)) ∧ PtAt H qs (bh2 m ds1 o1 ds2 o2 r)
theorem KnP.mono {H H' : Hp} {m : Nat} {ds1 ds2 : List Deed} {o1 o2 : Int} {xs : List NE} (h : KnP H m ds1 o1 ds2 o2 xs) (tl : ∀ q ys, H q = some (.lst ys) → H' q = some (.lst ys)) (tt : TupsStay H H') : KnP H' m ds1 o1 ds2 o2 xs := fun p hp => by
  obtain ⟨r, q, qs, h1, h2, h3, h4⟩ := h p hp
  exact ⟨r, q, qs, h1, h2, tl _ _ h3, ptat_stay tt h4⟩
def spCt : Sp := fun vs H Q _ => ∃ (R1 R2 Wd : Addr) (m w0 w1 : Nat) (o1 o2 : Int) (ds1 ds2 : List Deed), vs = [.ref R1, .ref R2, .ref Wd] ∧ RowAt H R1 m ds1 o1 ∧ RowOk m ds1 o1 ∧ RowAt H R2 m ds2 o2 ∧ RowOk m ds2 o2 ∧ ds1.length + ds2.length ≤ 8 ∧ H Wd = some (.lst [.int (w0 : Int), .int (w1 : Int)]) ∧ 1 ≤ w0 ∧ w0 ≤ 60 ∧ 1 ≤ w1 ∧ w1 ≤ 60 ∧
  ∀ H' L, Same H H' → H' L = some (.lst [.int ((cnt m ds1 o1 ds2 o2 w0 (ds1.map fcD) (ds2.map fcD) : Nat) : Int), .int ((cnt m ds1 o1 ds2 o2 w1 (ds1.map fcD) (ds2.map fcD) : Nat) : Int)]) → Q (.ref L) H'
set_option maxHeartbeats 4000000 in
theorem ok_ct {f fF fB : Addr} {fd fdF fdB : FuncData} {k : Nat} (F : Fun K "_law_counts" "_law_counts" s_law_counts f fd)
    (GF : FnOk P w K mg base CX0 (k + 1) fF fdF ["row"] spF1) (kF : PySem.W.keepIn K (.ref fF) = true) (bF : Binds K fdF ["row"] []) (gF : mg "_law_first" = some (.ref fF))
    (GB : FnOk P w K mg base CX0 (k + 2) fB fdB ["row", "other", "pair"] spBh) (kB : PySem.W.keepIn K (.ref fB) = true) (bB : Binds K fdB ["row", "other", "pair"] []) (gB : mg "_law_behind" = some (.ref fB))
    (mr : mg "range" = none) (mm : mg "max" = none) (ms : mg "sum" = none) : FnOk P w K mg base CX0 (k + 3) f fd ["row", "other", "widths"] spCt := by
  refine F.ok sc_law_counts (fun vs H Q E h => ?_) (fun cdv A outer s H vs Q E hr h => ?_)
  · obtain ⟨R1, R2, Wd, m, w0, w1, o1, o2, ds1, ds2, rfl, _⟩ := h
    rfl
  · obtain ⟨R1, R2, Wd, m, w0, w1, o1, o2, ds1, ds2, rfl, hr1, ok1, hr2, ok2, h8, eWd, w01, w060, w11, w160, qq⟩ := h
    have hu := hu_of hr
    have r1 := hr.mono (show k + 1 ≤ k + 2 by omega)
    refine ⟨_, pss_cons (ps_set (i := 3) sc_law_counts.nd rfl (.inl rfl) (pe_ndisp (P := P) (w := w) rfl rfl hr.units (pe_tup (pa_cons (pe_call GF r1 (by rfl) gF kF bF .nil pass0 (pa_cons (pv 0) pa_nil)) (pa_cons (pe_call GF r1 (by rfl) gF kF bF .nil pass0 (pa_cons (pv 1) pa_nil)) pa_nil))) pe_int))
      (pss_cons (ps_set (i := 4) sc_law_counts.nd rfl (.inl rfl) (pe_ndnew (P := P) (w := w) rfl rfl))
      (pss_cons (ps_set (i := 5) sc_law_counts.nd rfl (.inr rfl) pe_dnewK)
      (pss_cons (ps_for PassesOwn.never rfl (pi_range2 (by rfl) mr (pa_cons pe_int (pa_cons (pe_op op_add (pe_callB (cr_max rfl) (by rfl) mm (by decide +kernel) (pa_cons (pv 2) pa_nil)) pe_int) pa_nil))) (pg_name (i := 6) sc_law_counts.nd rfl (.inl rfl))
        (pss_cons (ps_set (i := 7) sc_law_counts.nd rfl (.inl rfl) (pe_ndnew (P := P) (w := w) rfl rfl))
        (pss_cons (ps_lock (ps_for PassesOwn.never rfl (pi_keysN (P := P) (w := w) rfl rfl (pv 3)) (pg_name (i := 8) sc_law_counts.nd rfl (.inl rfl))
          (pss_mid (ps_if (pt_cmp (pc_ndnotin (P := P) (w := w) rfl rfl hr.units (pv 8) (pv 4)))
              (pss_one (ps_ndput (P := P) (w := w) rfl rfl hr.units (pv 4) (pv 8) (pe_call GB hr (by rfl) gB kB bB .nil pass0 (pa_cons (pv 0) (pa_cons (pv 1) (pa_cons (pv 8) pa_nil)))) rfl)) pss_nil)
          (pss_one (ps_for PassesOwn.never rfl (pi_list (pe_ndget (P := P) (w := w) rfl rfl hr.units (pv 4) (pv 8) (fun _ _ => rfl))) (pg_name (i := 9) sc_law_counts.nd rfl (.inl rfl))
            (pss_one (ps_ndputA (P := P) (w := w) rfl rfl hr.units (pv 7) (pv 9) (pe_op op_add (pe_ndget2 (P := P) (w := w) rfl rfl hr.units (pv 7) (pv 9) pe_int ⟨rfl, rfl, rfl, rfl⟩) (pe_ndgetR (P := P) (w := w) rfl rfl hr.units (pv 3) (pv 8) (fun _ _ => rfl))) rfl)))))))
        (pss_cons (ps_set (i := 3) sc_law_counts.nd rfl (.inl rfl) (pv 7))
        (pss_one (ps_dput hu (pv 5) (pv 6) (pe_callB (call_sumN (P := P) (w := w) rfl rfl rfl) (by rfl) ms (by decide +kernel) (pa_cons (pe_nvals (P := P) (w := w) rfl rfl (pv 3)) pa_nil)) rfl))))))
      (pss_one (ps_ret (pe_lc (own := [("width", 6)]) (g := gName 6) (by rfl) sc_law_counts.nd (pi_list (pv 2)) (blkOk_by (own := [("width", 6)]) (N := N_law_counts) (sc := defScope s_law_counts) (by decide +kernel))
        (fun _ _ _ _ _ => pg_name (i := 6) sc_law_counts.nd rfl (Or.inl rfl)) (fun _ _ _ _ _ => pts_nil) (fun _ _ _ _ _ => pe_dget hu (pv 5) (pv 6) (fun _ _ => rfl)))))))), ?_⟩
    have m3 := ok1.m3
    have m3' : m ≤ 3 := by omega
    have l1 := ok1.len
    have l2 := ok2.len
    obtain ⟨cn, hcn⟩ : ∃ cn : Nat → Int, cn = fun n => ((cnt m ds1 o1 ds2 o2 n (ds1.map fcD) (ds2.map fcD) : Nat) : Int) := ⟨_, rfl⟩
    have fok : PcOk ds1 ds2 (ds1.map fcD, ds2.map fcD) := ⟨(rch_shp (crry_rch ds1 [] 0)).len, (rch_shp (crry_rch ds1 [] 0)).bits, (rch_shp (crry_rch ds2 [] 0)).len, (rch_shp (crry_rch ds2 [] 0)).bits⟩
    intro Ws hWs
    have sW := same_new (o := NDO P w Ws []) hWs
    refine ⟨.ref R1, rfl, R1, m, o1, ds1, rfl, (Same.tups sW).row hr1, by omega, fun H1 C1 s1 eC1 => ⟨.ref R2, rfl, R2, m, o2, ds2, rfl, (Same.tups (sW.trans s1)).row hr2, by omega, fun H2 C2 s2 eC2 => ⟨(by show 2 ≤ sizeLine; decide), fun T hT => ?_⟩⟩⟩
    have sT := same_new (o := .tup [.ref C1, .ref C2]) hT
    have prT : PrC (upd H2 T (.tup [.ref C1, .ref C2])) T (ds1.map fcD, ds2.map fcD) := ⟨C1, C2, upd_same, sT _ _ (s2 _ _ eC1), sT _ _ eC2⟩
    have nd0 : ND P w (upd H2 T (.tup [.ref C1, .ref C2])) Ws [] := nd_same nd_nil (s1.trans (s2.trans sT))
    refine ⟨T, kP (ds1.map fcD) (ds2.map fcD), rfl, keyP prT, nd0.ob, ?_⟩
    have nd1 := nd_put (v := .int 1) nd0 (keyP prT)
    obtain ⟨H3, hH3⟩ : ∃ H3, H3 = upd (upd H2 T (.tup [.ref C1, .ref C2])) Ws (NDO P w Ws [(kP (ds1.map fcD) (ds2.map fcD), T, .int 1)]) := ⟨_, rfl⟩
    have nd3 : ND P w H3 Ws [(kP (ds1.map fcD) (ds2.map fcD), T, .int 1)] := by rw [hH3]; exact nd1
    have sH3 : Same H H3 := fun b u e => by
      rw [hH3, upd_ne (ne_of_none e hWs)]
      exact sT _ _ (s2 _ _ (s1 _ _ (sW _ _ e)))
    rw [← hH3]
    clear hH3 nd1 nd0 prT sT sW
    intro Kn hKn
    have nKH : H Kn = none := sH3.free hKn
    have nWK : Ws ≠ Kn := fun z => by rw [← z, nd3.ob] at hKn; cases hKn
    have sK := same_new (o := NDO P w Kn []) hKn
    intro Du hDu
    have nDH : H Du = none := (sH3.trans sK).free hDu
    have nDK : Du ≠ Kn := fun z => by rw [z, upd_same] at hDu; cases hDu
    have sD := same_new (o := .dK []) hDu
    have sI := sH3.trans (sK.trans sD)
    refine ⟨.ref Wd, rfl, Wd, [(w0 : Int), (w1 : Int)], rfl, .inl (.inl (sI _ _ eWd)), (by show 0 < 2; decide), fun mx hmx hall => ⟨mx, 1, rfl, rfl, 1, mx + 1, rfl, ?_, ?_⟩⟩
    · have : mx = (w0 : Int) ∨ mx = (w1 : Int) := by simpa using hmx
      omega
    have mx60 : 1 ≤ mx ∧ mx ≤ 60 := by
      have : mx = (w0 : Int) ∨ mx = (w1 : Int) := by simpa using hmx
      omega
    have mw0 : (w0 : Int) ≤ mx := hall _ (by simp)
    have mw1 : (w1 : Int) ≤ mx := hall _ (by simp)
    refine for_range (lo := 1) (n := (mx + 1 - 1).toNat) (fun t σ H4 => ∃ y6 y7 y8 y9 Ws xs ks kvs, σ = [some (.ref R1), some (.ref R2), some (.ref Wd), some (.ref Ws), some (.ref Kn), some (.ref Du), y6, y7, y8, y9] ∧ ND P w H4 Ws xs ∧ WOk ds1 ds2 xs ∧ Ws ≠ Kn ∧ (∀ r, linN (cntK m ds1 o1 ds2 o2 r) xs = cn (r + t)) ∧ ND P w H4 Kn ks ∧ KnP H4 m ds1 o1 ds2 o2 ks ∧ ks.length ≤ t * 256 ∧ H4 Du = some (.dK kvs) ∧ kvs.length ≤ t ∧ (∀ j : Nat, 1 ≤ j → j ≤ t → valV kvs (Sum.inl (j : Int)) = some (.int (cn j))) ∧ H Ws = none ∧ Same H H4)
      ⟨none, none, none, none, Ws, _, [], [], rfl, nd_same nd3 (sK.trans sD), ⟨by simp, fun x hx => ?_⟩, nWK, fun r => ?_, nd_same nd_nil sD, (fun _ z => nomatch z), Nat.zero_le _, upd_same, Nat.zero_le _, (fun j h1 h2 => by omega), hWs, sI⟩ (fun t σ H4 ht hp => ?_) (fun σ H4 hp => ?_)
    · rw [List.mem_singleton.mp hx]
      exact ⟨(ds1.map fcD, ds2.map fcD), 1, rfl, rfl, fok⟩
    · rw [hcn]
      show 1 * cntK m ds1 o1 ds2 o2 r (kP (ds1.map fcD) (ds2.map fcD)) + 0 = ((cnt m ds1 o1 ds2 o2 (r + 0) (ds1.map fcD) (ds2.map fcD) : Nat) : Int)
      unfold cntK
      rw [unP_kP (ds1.map fcD, ds2.map fcD), Int.one_mul, Int.add_zero]
      rfl
    · obtain ⟨y6, y7, y8, y9, Ws, xs, ks, kvs, rfl, ndW, wok, nWK, hlin, ndK, knK, kl, eDu, kvl, hdue, hWn, s4⟩ := hp
      clear hWs nd3
      have xl := wok_len wok h8
      have t60 : t < 60 := by omega
      intro Lt hLt
      have nLH : H Lt = none := s4.free hLt
      have nLW : Lt ≠ Ws := fun z => by rw [z, ndW.ob] at hLt; cases hLt
      have nLK : Lt ≠ Kn := fun z => by rw [z, ndK.ob] at hLt; cases hLt
      have nDL : Du ≠ Lt := fun z => by rw [← z, eDu] at hLt; cases hLt
      have nDW : Du ≠ Ws := ne_of eDu ndW.ob (fun z => nomatch z)
      have sLt := same_new (o := NDO P w Lt []) hLt
      refine ⟨Ws, NDO P w Ws xs, sLt _ _ ndW.ob, True.intro, fun od => ?_⟩
      obtain ⟨HL, hHL⟩ : ∃ HL, HL = upd (upd H4 Lt (NDO P w Lt [])) Ws (.frz od (NDO P w Ws xs)) := ⟨_, rfl⟩
      have eWL : HL Ws = some (.frz od (NDO P w Ws xs)) := by rw [hHL]; exact upd_same
      have eLL : HL Lt = some (NDO P w Lt []) := by rw [hHL, upd_ne nLW]; exact upd_same
      have toL : ∀ b u, b ≠ Ws → H4 b = some u → HL b = some u := fun b u nb e => by
        rw [hHL, upd_ne nb]
        exact sLt _ _ e
      have tL : TupsStay H4 HL := fun b ys e => toL b _ (ne_of e ndW.ob (fun z => nomatch z)) e
      have ndKL : ND P w HL Kn ks := nd_stay ndK (toL _ _ nWK.symm ndK.ob) tL
      have knL : KnP HL m ds1 o1 ds2 o2 ks := knK.mono (fun q ys e => toL _ _ (ne_of e ndW.ob (fun z => nomatch z)) e) tL
      have ndLL : ND P w HL Lt [] := ⟨eLL, (fun _ z => nomatch z)⟩
      have eDL := toL _ _ nDW eDu
      rw [← hHL]
      clear hHL
      refine ⟨.ref Ws, rfl, Ws, od, xs, rfl, eWL, for_it (walk_N (P := P) (w := w) (d := Ws) (o := od) (xs := xs)) (fun i σ H5 => ∃ y8 y9 ts ks, σ = [some (.ref R1), some (.ref R2), some (.ref Wd), some (.ref Ws), some (.ref Kn), some (.ref Du), some (.int (1 + t)), some (.ref Lt), y8, y9] ∧ ND P w H5 Lt ts ∧ WOk ds1 ds2 ts ∧ (∀ r, linN (cntK m ds1 o1 ds2 o2 r) ts = linN (cntK m ds1 o1 ds2 o2 (r + 1)) (xs.take i)) ∧ ND P w H5 Kn ks ∧ KnP H5 m ds1 o1 ds2 o2 ks ∧ ks.length ≤ t * 256 + i ∧ ∀ b u, b ≠ Kn → b ≠ Lt → HL b = some u → H5 b = some u)
        ⟨y8, y9, [], ks, rfl, ndLL, ⟨List.nodup_nil, (fun _ z => nomatch z)⟩, (fun _ => rfl), ndKL, knL, by omega, fun _ _ _ _ e => e⟩ (fun i σ H5 _ hp => ?_) (fun i x σ H6 H5 hi hp hy => ?_) (fun σ H5 hp => ?_)⟩
      · obtain ⟨_, _, _, _, _, _, _, _, _, _, _, st⟩ := hp
        exact st _ _ nWK nLW.symm eWL
      · obtain ⟨y8, y9, ts, ks, rfl, ndT, wokT, linT, nd5, kn5, kl5, st⟩ := hp
        obtain ⟨rfl, p, hxp, rfl⟩ := hy
        obtain ⟨r, z, er, ez, rok⟩ := wok.each p (List.mem_of_getElem? hxp)
        have t5 : TupsStay H4 H5 := fun b ys e => by
          have e1 := tL b ys e
          exact st _ _ (ne_of e1 ndKL.ob (fun y => nomatch y)) (ne_of e1 eLL (fun y => nomatch y)) e1
        have prc : PrC H5 p.2.1 r := by
          have h := (ndW.ks p (List.mem_of_getElem? hxp)).1
          rw [er] at h
          exact (prC_of h).stay t5
        have row1 : ∀ {H6 : Hp}, TupsStay H5 H6 → RowAt H6 R1 m ds1 o1 := fun s6 => ((Same.tups s4).trans (t5.trans s6)).row hr1
        have row2 : ∀ {H6 : Hp}, TupsStay H5 H6 → RowAt H6 R2 m ds2 o2 := fun s6 => ((Same.tups s4).trans (t5.trans s6)).row hr2
        refine ⟨fun σ' H' => ∃ ks q qs, σ' = [some (.ref R1), some (.ref R2), some (.ref Wd), some (.ref Ws), some (.ref Kn), some (.ref Du), some (.int (1 + t)), some (.ref Lt), some (.ref p.2.1), y9] ∧ ND P w H' Lt ts ∧ PrC H' p.2.1 r ∧ ND P w H' Kn ks ∧ KnP H' m ds1 o1 ds2 o2 ks ∧ ks.length ≤ t * 256 + (i + 1) ∧ getN ks (kP r.1 r.2) = some (.ref q) ∧ H' q = some (.lst (qs.map V.ref)) ∧ PtAt H' qs (bh2 m ds1 o1 ds2 o2 r) ∧ ∀ b u, b ≠ Kn → b ≠ Lt → HL b = some u → H' b = some u, ?_, ?_⟩
        · refine ⟨.ref p.2.1, rfl, .ref Kn, rfl, Kn, ks, kP r.1 r.2, rfl, nd5, keyP prc, _, rfl, ?_⟩
          cases eg : getN ks (kP r.1 r.2) with
          | some v =>
            obtain ⟨b0, hm0⟩ := getN_some eg
            obtain ⟨r', qa, qs, h1, h2, h3, h4⟩ := kn5 _ hm0
            have err : r = r' := by
              obtain ⟨a1, a2⟩ := kP_inj h1
              exact Prod.ext a1 a2
            subst err
            obtain rfl : v = .ref qa := h2
            exact ⟨ks, qa, qs, rfl, ndT, prc, nd5, kn5, by omega, eg, h3, h4, st⟩
          | none =>
            refine ⟨.ref R1, rfl, .ref R2, rfl, .ref p.2.1, rfl, R1, R2, p.2.1, m, o1, o2, ds1, ds2, r, rfl, row1 (fun _ _ e => e), ok1, row2 (fun _ _ e => e), ok2, prc, rok, fun H6 Z qs s6 eZ hq => ?_⟩
            have nd6 := nd_same nd5 s6
            have key6 := keyP (prc.stay (Same.tups s6))
            refine ⟨.ref Kn, rfl, .ref p.2.1, rfl, Kn, ks, kP r.1 r.2, p.2.1, rfl, nd6, rfl, key6, eg, by rw [sizeLine_eq]; omega, ?_⟩
            have ndY := nd_put (v := .ref Z) nd6 key6
            have sKn : ∀ b u, b ≠ Kn → H6 b = some u → upd H6 Kn (NDO P w Kn (ks ++ [(kP r.1 r.2, p.2.1, .ref Z)])) b = some u := fun b u nb e => by
              rw [upd_ne nb]
              exact e
            have tKn : TupsStay H6 (upd H6 Kn (NDO P w Kn (ks ++ [(kP r.1 r.2, p.2.1, .ref Z)]))) := fun b ys e => sKn _ _ (ne_of e nd6.ob (fun y => nomatch y)) e
            have lKn : ∀ b ys, H6 b = some (.lst ys) → upd H6 Kn (NDO P w Kn (ks ++ [(kP r.1 r.2, p.2.1, .ref Z)])) b = some (.lst ys) := fun b ys e => sKn _ _ (ne_of e nd6.ob (fun y => nomatch y)) e
            refine ⟨ks ++ [(kP r.1 r.2, p.2.1, .ref Z)], Z, qs, rfl, nd_stay (nd_same ndT s6) (sKn _ _ nLK (s6 _ _ ndT.ob)) tKn, (prc.stay (Same.tups s6)).stay tKn, ndY, ?_, ?_, ?_, lKn _ _ eZ, ptat_stay tKn hq, fun b u n1 n2 e => sKn _ _ n1 (s6 _ _ (st b u n1 n2 e))⟩
            · intro y hy
              rcases List.mem_append.mp hy with hy | hy
              · exact ((kn5.mono (fun q ys e => s6 _ _ e) (Same.tups s6)).mono lKn tKn) y hy
              · rw [List.mem_singleton.mp hy]
                exact ⟨r, Z, qs, rfl, rfl, lKn _ _ eZ, ptat_stay tKn hq⟩
            · rw [List.length_append]
              show _ + 1 ≤ _
              omega
            · rw [getN_snoc eg, if_pos rfl]
        · rintro σ' H6 ⟨ks, q, qs, rfl, ndT6, prc6, ndK6, kn6, kl6, eg, eq, hq, st6⟩
          have lq := Nat.le_trans (Nat.le_of_eq (awLen hq)) (bh2_len m3')
          have bok := bh2_ok (m := m) (o1 := o1) (o2 := o2) rok
          refine ⟨.ref Kn, rfl, .ref p.2.1, rfl, Kn, ks, kP r.1 r.2, .ref q, rfl, ndK6, keyP prc6, eg, q, rfl, ⟨_, .inl (.inl eq)⟩, for_list (K := K) (a := q) (xs := qs.map V.ref) (fun j σ H7 => ∃ y9 ts, σ = [some (.ref R1), some (.ref R2), some (.ref Wd), some (.ref Ws), some (.ref Kn), some (.ref Du), some (.int (1 + t)), some (.ref Lt), some (.ref p.2.1), y9] ∧ ND P w H7 Lt ts ∧ WOk ds1 ds2 ts ∧ (∀ n, linN (cntK m ds1 o1 ds2 o2 n) ts = linN (cntK m ds1 o1 ds2 o2 (n + 1)) (xs.take i) + z * (((bh2 m ds1 o1 ds2 o2 r).take j).map fun s => cntK m ds1 o1 ds2 o2 n (kP s.1 s.2)).sum) ∧ ∀ b u, b ≠ Lt → H6 b = some u → H7 b = some u)
            ⟨y9, ts, rfl, ndT6, wokT, fun n => by rw [linT, List.take_zero]; simp, fun _ _ _ e => e⟩ (fun j σ H7 _ hp => ?_) (fun j x σ H7 hx hp => ?_) (fun σ H7 hp => ?_)⟩
          · obtain ⟨_, _, _, _, _, _, st7⟩ := hp
            exact .inl (.inl (st7 _ _ (ne_of eq ndT6.ob (fun y => nomatch y)) eq))
          · obtain ⟨y9, ts, rfl, ndT7, wok7, lin7, st7⟩ := hp
            rw [List.getElem?_map] at hx
            obtain ⟨qa, hqa, rfl⟩ := Option.map_eq_some_iff.mp hx
            obtain ⟨sq, hs1, hs2⟩ := awGet hq hqa
            have t7 : TupsStay H6 H7 := fun b ys e => st7 _ _ (ne_of e ndT6.ob (fun y => nomatch y)) e
            have key7 := keyP (hs2.stay t7)
            have pr7 := prc6.stay t7
            obtain ⟨g, hg⟩ := wok_get wok7 (kP sq.1 sq.2)
            have eW7 : H7 Ws = some (.frz od (NDO P w Ws xs)) := st7 _ _ nLW.symm (st6 _ _ nWK nLW.symm eWL)
            have tW7 : TupsStay H4 H7 := fun b ys e => by
              have e1 := tL b ys e
              exact t7 _ _ (st6 _ _ (ne_of e1 ndKL.ob (fun y => nomatch y)) (ne_of e1 eLL (fun y => nomatch y)) e1)
            have ndr : NDR P w H7 Ws xs := ⟨.inr ⟨od, eW7⟩, fun y hy => ⟨nk_stay tW7 _ _ (ndW.ks y hy).1, (ndW.ks y hy).2⟩⟩
            have gW : getN xs (kP r.1 r.2) = some (.int z) := by
              rw [← er, getN_of wok.nd (List.mem_of_getElem? hxp), ez]
            refine ⟨.ref Lt, rfl, Lt, ts, rfl, ndT7, .ref qa, rfl, ts, kP sq.1 sq.2, ndT7, key7, ?_⟩
            rw [hg]
            refine ⟨.ref Ws, rfl, .ref p.2.1, rfl, Ws, xs, kP r.1 r.2, .int z, rfl, ndr, keyP pr7, gW, _, _, rfl, rfl, .ref Lt, rfl, .ref qa, rfl, Lt, ts, kP sq.1 sq.2, qa, rfl, ndT7, rfl, key7, ?_, some (.ref qa), putN ts (kP sq.1 sq.2) qa (.int (g + z)), rfl, nd_putA ndT7 key7, wok_put wok7 (bok _ (List.mem_of_getElem? hs1)), fun n => ?_, fun b u nb e => ?_⟩
            · have := wok_len wok7 h8
              exact small1000 (by omega)
            · rw [linN_put _ wok7.nd hg, lin7 n, List.take_add_one, hs1, List.map_append, List.sum_append, Int.mul_add, Int.add_assoc]
              have e0 : (((some sq).toList).map fun s => cntK m ds1 o1 ds2 o2 n (kP s.1 s.2)).sum = cntK m ds1 o1 ds2 o2 n (kP sq.1 sq.2) := by
                show cntK m ds1 o1 ds2 o2 n (kP sq.1 sq.2) + 0 = _
                rw [Int.add_zero]
              rw [e0]
            · rw [upd_ne nb]
              exact st7 b u nb e
          · obtain ⟨y9, ts, rfl, ndT7, wok7, lin7, st7⟩ := hp
            have t7 : TupsStay H6 H7 := fun b ys e => st7 _ _ (ne_of e ndT6.ob (fun y => nomatch y)) e
            refine ⟨_, _, ts, ks, rfl, ndT7, wok7, fun n => ?_, nd_stay ndK6 (st7 _ _ nLK.symm ndK6.ob) t7, kn6.mono (fun q ys e => st7 _ _ (ne_of e ndT6.ob (fun y => nomatch y)) e) t7, kl6, fun b u n1 n2 e => st7 _ _ n2 (st6 b u n1 n2 e)⟩
            rw [lin7 n, List.length_map, awLen hq, List.take_length, cntK_next, List.take_add_one, hxp, linN_append]
            congr 1
            show _ = valZ p.2.2 * cntK m ds1 o1 ds2 o2 (n + 1) p.1 + 0
            rw [ez, er, Int.add_zero]
            rfl
      · obtain ⟨y8, y9, ts, ks, rfl, ndT, wokT, linT, nd5, kn5, kl5, st⟩ := hp
        rw [List.take_length] at linT
        have eW5 := st _ _ nWK nLW.symm eWL
        have stay : ∀ b u, b ≠ Ws → H5 b = some u → upd H5 Ws (NDO P w Ws xs) b = some u := fun b u nb e => by
          rw [upd_ne nb]
          exact e
        have tS : TupsStay H5 (upd H5 Ws (NDO P w Ws xs)) := fun b ys e => stay _ _ (ne_of e eW5 (fun y => nomatch y)) e
        have s5 : Same H (upd H5 Ws (NDO P w Ws xs)) := fun b u e => by
          have nW : b ≠ Ws := ne_of_none e hWn
          exact stay _ _ nW (st b u (ne_of_none e nKH) (ne_of_none e nLH) (toL _ _ nW (s4 _ _ e)))
        have ndT8 : ND P w (upd H5 Ws (NDO P w Ws xs)) Lt ts := nd_stay ndT (stay _ _ nLW ndT.ob) tS
        have ndK8 : ND P w (upd H5 Ws (NDO P w Ws xs)) Kn ks := nd_stay nd5 (stay _ _ nWK.symm nd5.ob) tS
        have kn8 : KnP (upd H5 Ws (NDO P w Ws xs)) m ds1 o1 ds2 o2 ks := kn5.mono (fun q ys e => stay _ _ (ne_of e eW5 (fun y => nomatch y)) e) tS
        have eD8 : upd H5 Ws (NDO P w Ws xs) Du = some (.dK kvs) := stay _ _ nDW (st _ _ nDK nDL eDL)
        have tsum : (ts.map fun x => valZ x.2.2).sum = cn (t + 1) := by
          have e : (ts.map fun x => valZ x.2.2).sum = linN (cntK m ds1 o1 ds2 o2 0) ts := by
            unfold linN
            congr 1
            refine List.map_congr_left fun x _ => ?_
            show valZ x.2.2 = valZ x.2.2 * ((1 : Nat) : Int)
            rw [Int.natCast_one, Int.mul_one]
          rw [e, linT 0, hlin]
          congr 1
          omega
        refine ⟨eW5, .ref Lt, rfl, .ref Lt, rfl, Lt, ts, rfl, ndT8.ob, fun vp hvp => ?_⟩
        have sV := same_new (o := valsO vp Lt) hvp
        refine ⟨vp, Lt, ts, ts.map (fun x => valZ x.2.2), rfl, upd_same, sV _ _ ndT8.ob, ?_, ?_⟩
        · rw [List.map_map]
          refine List.map_congr_left fun x hx => ?_
          obtain ⟨_, z, _, hz, _⟩ := wokT.each x hx
          show x.2.2 = V.int (valZ x.2.2)
          rw [hz]
          rfl
        rw [tsum]
        have eDV := sV _ _ eD8
        refine ⟨.ref Du, rfl, .int (1 + t), rfl, Du, _, rfl, DPut.k (k := Sum.inl (1 + (t : Int))) eDV (small1000 (by omega)), _, _, _, _, Lt, ts, ks, _, rfl, ?_, wokT, nLK, fun r => ?_, ?_, ?_, ?_, upd_same, ?_, fun j j1 j2 => ?_, nLH, fun b u e => ?_⟩
        · refine nd_stay (nd_same ndT8 sV) ?_ (fun b ys e => ?_)
          · rw [upd_ne nDL.symm]
            exact sV _ _ ndT8.ob
          · rw [upd_ne (ne_of e eDV (fun y => nomatch y))]
            exact e
        · rw [linT r, hlin]
          congr 1
          omega
        · refine nd_stay (nd_same ndK8 sV) ?_ (fun b ys e => ?_)
          · rw [upd_ne nDK.symm]
            exact sV _ _ ndK8.ob
          · rw [upd_ne (ne_of e eDV (fun y => nomatch y))]
            exact e
        · refine kn8.mono (fun q ys e => ?_) (fun b ys e => ?_)
          · rw [upd_ne (ne_of (sV _ _ e) eDV (fun y => nomatch y))]
            exact sV _ _ e
          · rw [upd_ne (ne_of (sV _ _ e) eDV (fun y => nomatch y))]
            exact sV _ _ e
        · omega
        · have := length_putK kvs (Sum.inl (1 + (t : Int))) (.int (cn (t + 1)))
          omega
        · rw [valV_put]
          by_cases e : j = t + 1
          · rw [if_pos (by rw [e]; congr 1; omega), e]
          · rw [if_neg (fun z => e (by have := Sum.inl.inj z; omega))]
            exact hdue j j1 (by omega)
        · rw [upd_ne (ne_of_none e nDH)]
          exact sV _ _ (s5 _ _ e)
    · obtain ⟨y6, y7, y8, y9, Ws, xs, ks, kvs, rfl, ndW, wok, nWK, hlin, ndK, knK, kl, eDu, kvl, hdue, hWn, s4⟩ := hp
      have eWd4 := s4 _ _ eWd
      refine ⟨.ref Wd, rfl, Wd, rfl, ⟨_, .inl (.inl eWd4)⟩, fun C hC => ?_⟩
      have nDC : Du ≠ C := fun z => by rw [← z, eDu] at hC; cases hC
      refine lc_list (K := K) (a := Wd) (xs := [.int (w0 : Int), .int (w1 : Int)]) (fun j H5 => H5 C = some (.lst (([V.int (cn w0), .int (cn w1)]).take j)) ∧ ∀ b u, b ≠ C → H4 b = some u → H5 b = some u) ⟨upd_same, fun b u nb e => by rw [upd_ne nb]; exact e⟩ (fun j H5 _ hp => ?_) (fun j x H5 hx hp => ?_) (fun H5 hp => ?_)
      · exact .inl (.inl (hp.2 _ _ (ne_of_none eWd4 hC) eWd4))
      · obtain ⟨eC, st5⟩ := hp
        have eDu5 := st5 _ _ nDC eDu
        obtain ⟨wj, rfl, hv, htk⟩ : ∃ wj : Nat, x = .int (wj : Int) ∧ valV kvs (Sum.inl (wj : Int)) = some (.int (cn wj)) ∧ ([V.int (cn w0), .int (cn w1)]).take (j + 1) = ([V.int (cn w0), .int (cn w1)]).take j ++ [.int (cn wj)] := by
          match j, hx with
          | 0, hx => exact ⟨w0, (Option.some.inj hx).symm, hdue w0 w01 (by omega), rfl⟩
          | 1, hx => exact ⟨w1, (Option.some.inj hx).symm, hdue w1 w11 (by omega), rfl⟩
          | j + 2, hx => cases hx
        refine ⟨rfl, .ref Du, rfl, .int (wj : Int), rfl, Du, .int (cn wj), rfl, dget_at (k := Sum.inl (wj : Int)) eDu5 hv, _, eC, ?_, ?_, ?_⟩
        · rw [List.length_take]
          exact small1000 (by show min j 2 ≤ 1000; omega)
        · rw [upd_same, htk]
        · intro b u nb e
          rw [upd_ne nb]
          exact st5 b u nb e
      · obtain ⟨eC, st5⟩ := hp
        have eC' : H5 C = some (.lst [V.int (cn w0), .int (cn w1)]) := eC
        rw [hcn] at eC'
        exact qq H5 C (fun b u e => st5 _ _ (ne_of_none (s4 _ _ e) hC) (s4 _ _ e)) eC'
/-! ### the law -/
theorem cnt_le {m : Nat} {ds1 ds2 : List Deed} {o1 o2 : Int} : ∀ (n : Nat) (c1 c2 : List Int), cnt m ds1 o1 ds2 o2 n c1 c2 ≤ (2 ^ m) ^ n
  | 0, _, _ => Nat.le_refl 1
  | n + 1, c1, c2 => by
    show ((allB m).map fun bs => if ob ds1 o1 c1 bs = ob ds2 o2 c2 bs then cnt m ds1 o1 ds2 o2 n (nc ds1 c1 bs) (nc ds2 c2 bs) else 0).sum ≤ (2 ^ m) ^ (n + 1)
    have ih := cnt_le (m := m) (ds1 := ds1) (ds2 := ds2) (o1 := o1) (o2 := o2) n
    have key : ∀ L : List (List Int), (L.map fun bs => if ob ds1 o1 c1 bs = ob ds2 o2 c2 bs then cnt m ds1 o1 ds2 o2 n (nc ds1 c1 bs) (nc ds2 c2 bs) else 0).sum ≤ L.length * (2 ^ m) ^ n := by
      intro L
      induction L with
      | nil => exact Nat.zero_le _
      | cons b L il =>
        rw [List.map_cons, List.sum_cons, List.length_cons, Nat.succ_mul]
        have : (if ob ds1 o1 c1 b = ob ds2 o2 c2 b then cnt m ds1 o1 ds2 o2 n (nc ds1 c1 b) (nc ds2 c2 b) else 0) ≤ (2 ^ m) ^ n := by
          split
          · exact ih _ _
          · exact Nat.zero_le _
        omega
    have := key (allB m)
    rw [allB_len] at this
    rw [Nat.pow_succ, Nat.mul_comm]
    exact this
theorem cnt_big {m n : Nat} {ds1 ds2 : List Deed} {o1 o2 : Int} {c1 c2 : List Int} (m3 : m ≤ 3) (hn : n ≤ 60) : (((cnt m ds1 o1 ds2 o2 n c1 c2 : Nat) : Int)).natAbs < 10 ^ 60 := by
  have h := cnt_le (m := m) (ds1 := ds1) (ds2 := ds2) (o1 := o1) (o2 := o2) n c1 c2
  have e : (2 ^ m) ^ n ≤ 2 ^ 180 := by
    rw [← Nat.pow_mul]
    have : m * n ≤ 3 * 60 := Nat.mul_le_mul m3 hn
    exact Nat.pow_le_pow_right (by decide) (by omega)
  have e2 : (2 : Nat) ^ 180 < 10 ^ 60 := by decide
  rw [Int.natAbs_natCast]
  omega
theorem big_sh {i : Int} (h : i.natAbs < 10 ^ 60) : (PyData.int i).showable = true ∧ (PyData.int i).leavesShort 61 = true := by
  refine ⟨?_, ?_⟩
  · simp only [PyData.showable, decide_eq_true_eq]
    have : i.natAbs < 2 ^ 200 := Nat.lt_trans h (by decide)
    by_cases e : i.natAbs = 0
    · rw [e]; decide
    · have := (Nat.log2_lt e).mpr this
      omega
  · simp only [PyData.leavesShort, decide_eq_true_eq]
    have e := int_text_length_le10 (k := 60) (by decide) h
    simp only [PyData.shown]
    rw [PySem.ofString_length]
    exact e
theorem big_two {a b : Int} (ha : a.natAbs < 10 ^ 60) (hb : b.natAbs < 10 ^ 60) : (PyData.list [.int a, .int b]).showable = true ∧ (PyData.list [.int a, .int b]).depth ≤ 40 ∧ (PyData.list [.int a, .int b]).shown.length ≤ sizeLine ∧ (PyData.list [.int a, .int b]).hasDict = false := by
  obtain ⟨a1, a2⟩ := big_sh ha
  obtain ⟨b1, b2⟩ := big_sh hb
  refine ⟨?_, ?_, ?_, ?_⟩
  · simp only [PyData.showable, PyData.showableAll] at a1 b1 ⊢
    simp only [a1, b1, Bool.and_self]
  · simp only [PyData.depth, PyData.depthAll]
    decide
  · have lv : (PyData.list [.int a, .int b]).leavesShort 61 = true := by
      simp only [PyData.leavesShort, PyData.leavesShortAll] at a2 b2 ⊢
      simp only [a2, b2, Bool.and_self]
    have h1 := PyData.shown_le_bulk 61 (by decide) _ lv
    have h2 : (PyData.list [.int a, .int b]).bulk ≤ 100 := by
      simp only [PyData.bulk, PyData.bulkAll]
      decide
    rw [sizeLine_eq]
    omega
  · rfl
theorem few_at {m : Nat} (h1 : 1 ≤ m) (h3 : m ≤ 3) : ∃ u : Int, atI [V.int 4, .int 4, .int 3] ((m : Int) - 1) = some (.int u) ∧ 0 ≤ u ∧ u ≤ 4 := by
  have hm : m = 1 ∨ m = 2 ∨ m = 3 := by omega
  rcases hm with rfl | rfl | rfl
  · exact ⟨4, rfl, by decide, by decide⟩
  · exact ⟨4, rfl, by decide, by decide⟩
  · exact ⟨3, rfl, by decide, by decide⟩
theorem w3_at {z : Int} (h0 : 0 ≤ z) (h3 : z < 3) : ∃ u : Nat, atI [V.int 60, .int 1, .int 12] z = some (.int (u : Int)) ∧ 1 ≤ u ∧ u ≤ 60 := by
  have hm : z = 0 ∨ z = 1 ∨ z = 2 := by omega
  rcases hm with rfl | rfl | rfl
  · exact ⟨60, rfl, by decide, by decide⟩
  · exact ⟨1, rfl, by decide, by decide⟩
  · exact ⟨12, rfl, by decide, by decide⟩
set_option maxHeartbeats 4000000 in
theorem law_run {fa fWe fDr fRo fSe fHo fCt cP : Addr} {fd fdWe fdDr fdRo fdSe fdHo fdCt : FuncData} {s : Shared} {a : Addr} {ns : List Int} {H : Hp} (F : Fun K "law" "law" s_law fa fd) (bL : Binds K fd ["script"] [])
    (GW : FnOk P w K mg base CX0 1 fWe fdWe ["script"] (spWell K)) (kW : PySem.W.keepIn K (.ref fWe) = true) (bW : Binds K fdWe ["script"] []) (gW : mg "_law_well" = some (.ref fWe))
    (GD : FnOk P w K mg base CX0 1 fDr fdDr ["well", "many"] spDraw) (kD : PySem.W.keepIn K (.ref fDr) = true) (bD : Binds K fdDr ["well", "many"] []) (gD : mg "_law_draw" = some (.ref fDr))
    (GR : FnOk P w K mg base CX0 3 fRo fdRo ["well", "many", "most"] spRow) (kR : PySem.W.keepIn K (.ref fRo) = true) (bR : Binds K fdRo ["well", "many", "most"] []) (gR : mg "_law_row" = some (.ref fRo))
    (GS : FnOk P w K mg base CX0 4 fSe fdSe ["well", "row"] spSe) (kS : PySem.W.keepIn K (.ref fSe) = true) (bS : Binds K fdSe ["well", "row"] []) (gS : mg "_law_second" = some (.ref fSe))
    (GH : FnOk P w K mg base (L2.CX P w) 8 fHo fdHo ["row", "other", "width"] (spHo cP)) (kH : PySem.W.keepIn K (.ref fHo) = true) (bH : Binds K fdHo ["row", "other", "width"] []) (gH : mg "how_often" = some (.ref fHo))
    (GC : FnOk P w K mg base CX0 3 fCt fdCt ["row", "other", "widths"] spCt) (kC' : PySem.W.keepIn K (.ref fCt) = true) (bC : Binds K fdCt ["row", "other", "widths"] []) (gC : mg "_law_counts" = some (.ref fCt))
    (mn : mg "len" = none) (mp : mg "repr" = none) (hlen : ns.length ≤ 63) (hbits : ∀ z ∈ ns, Builtin.Int.intBits z ≤ 1048576) (e0 : Env0 P w K mg base callerA [] s H) (hS : SqL K H a (ns.map V.int)) :
    codeAny (model P w) callerA (.call (.ref fa) ⟨[.ref a], []⟩) (CR CX0 [] P w H s (fun v _ => v = .bl true) E0) s := by
  refine fn_at (k := 10) (us := [.ref a]) (vs := [.ref a]) F sc_law ⟨rfl, by decide, by decide⟩ e0 ?_ (.cons rfl .nil) rfl (fun cdv => ?_)
  · have := bL s [.ref a] (e0.mod.kin.keeps fun b o e => (e0.bs b o e).1) rfl
    simpa using this
  have hr : Room 10 (callerA.deeper (envOfC "law" (defScope s_law) s.heap.objs.size fa cdv)) := Room.deeper (k := 10) ⟨rfl, by decide, by decide⟩ _
  have hg : (callerA.deeper (envOfC "law" (defScope s_law) s.heap.objs.size fa cdv)).guards = some [] := rfl
  have R1 := hr.mono (show 1 ≤ 10 by decide)
  have R3 := hr.mono (show 3 ≤ 10 by decide)
  have R4 := hr.mono (show 4 ≤ 10 by decide)
  have R8 := hr.mono (show 8 ≤ 10 by decide)
  refine ⟨_, pss_cons (ps_set (i := 1) sc_law.nd rfl (.inl rfl) (pe_call GW R1 (by rfl) gW kW bW .nil pass0 (pa_cons (pv 0) pa_nil)))
    (pss_cons (ps_set (i := 2) sc_law.nd rfl (.inl rfl) (pe_lst (pa_cons (pe_ix ix_list (pe_lst (pa_cons pe_int (pa_cons pe_int (pa_cons pe_int pa_nil)))) (pe_call GD R1 (by rfl) gD kD bD .nil pass0 (pa_cons (pv 1) (pa_cons pe_int pa_nil))) (fun _ _ => rfl)) (pa_cons (pe_op op_add pe_int (pe_call GD R1 (by rfl) gD kD bD .nil pass0 (pa_cons (pv 1) (pa_cons pe_int pa_nil)))) pa_nil))))
    (pss_cons (ps_set (i := 3) sc_law.nd rfl (.inl rfl) (pe_op op_add pe_int (pe_call GD R1 (by rfl) gD kD bD .nil pass0 (pa_cons (pv 1) (pa_cons pe_int pa_nil)))))
    (pss_cons (ps_set (i := 4) sc_law.nd rfl (.inr rfl) (pe_call GR R3 (by rfl) gR kR bR .nil pass0 (pa_cons (pv 1) (pa_cons (pv 3) (pa_cons (pe_ix ix_list (pe_lst (pa_cons pe_int (pa_cons pe_int (pa_cons pe_int pa_nil)))) (pe_op op_sub (pv 3) pe_int) (fun _ _ => rfl)) pa_nil)))))
    (pss_cons (ps_set (i := 5) sc_law.nd rfl (.inr rfl) (pe_call GS R4 (by rfl) gS kS bS .nil pass0 (pa_cons (pv 1) (pa_cons (pv 4) pa_nil))))
    (pss_mid (ps_if (pt_cmpR op_gt (pe_callB call_len_seq (by rfl) mn PySem.boot_len (pa_cons (pe_ix ix_tup (pv 5) pe_int (fun _ _ => rfl)) pa_nil)) (pe_ix ix_list (pe_lst (pa_cons pe_int (pa_cons pe_int (pa_cons pe_int pa_nil)))) (pe_op op_sub (pv 3) pe_int) (fun _ _ => rfl)) (nomark _)) (pss_one (ps_set (i := 5) sc_law.nd rfl (.inr rfl) (pv 4))) pss_nil)
    (pss_one (ps_ret (pe_cmpR op_eq (pe_callB (call_repr hg hr.units) (by rfl) mp (by decide +kernel) (pa_cons
        (pe_lc (own := [("width", 6)]) (g := gName 6) (by rfl) sc_law.nd (pi_list (pv 2)) (blkOk_by (own := [("width", 6)]) (N := N_law) (sc := defScope s_law) (by decide +kernel)) (fun _ _ _ _ _ => pg_name (i := 6) sc_law.nd rfl (Or.inl rfl)) (fun _ _ _ _ _ => pts_nil)
          (fun _ _ _ _ _ => pe_call GH R8 (by rfl) gH kH bH .nil passL (pa_cons (pv 4) (pa_cons (pv 5) (pa_cons (pv 6) pa_nil))))) pa_nil))
      (pe_callB (call_repr hg hr.units) (by rfl) mp (by decide +kernel) (pa_cons (pe_call GC R3 (by rfl) gC kC' bC .nil pass0 (pa_cons (pv 4) (pa_cons (pv 5) (pa_cons (pv 2) pa_nil)))) pa_nil)) (nomark _))))))))), ?_⟩
  refine ⟨.ref a, rfl, a, ns, rfl, hS, hlen, hbits, fun H1 p c s1 hp hc w1 => ?_⟩
  refine ⟨(by show 3 ≤ sizeLine; decide), fun M hM => ?_⟩
  have sM := same_new (o := .lst [.int 60, .int 1, .int 12]) hM
  obtain ⟨nM1, nM2⟩ := w1.ne_new hM
  refine ⟨.ref p, rfl, p, c, 3, rfl, by decide, by decide, w1.same sM, fun H2 z z0 z1 w2 k2 => ?_⟩
  obtain ⟨v0, hv0, v01, v060⟩ := w3_at z0 z1
  refine ⟨M, _, z, .int (v0 : Int), rfl, rfl, .inl (.inl (k2 _ _ nM1 nM2 upd_same)), hv0, ?_⟩
  refine ⟨.ref p, rfl, p, c, 60, rfl, by decide, by decide, w2, fun H3 y y0 y1 w3 k3 => ⟨1, y, rfl, rfl, (by show 2 ≤ sizeLine; decide), fun Wd hWd => ?_⟩⟩
  obtain ⟨v1, hv1⟩ : ∃ v1 : Nat, 1 + y = (v1 : Int) := ⟨(1 + y).toNat, by omega⟩
  have v11 : 1 ≤ v1 := by omega
  have v160 : v1 ≤ 60 := by omega
  show gName 2 (V.ref Wd) _ (upd H3 Wd (HO.lst [V.int (v0 : Int), V.int (1 + y)])) _
  rw [hv1]
  have sWd := same_new (o := .lst [.int (v0 : Int), .int (v1 : Int)]) hWd
  obtain ⟨nW1, nW2⟩ := w3.ne_new hWd
  have w4 := w3.same sWd
  have eWd : upd H3 Wd (.lst [.int (v0 : Int), .int (v1 : Int)]) Wd = some (.lst [.int (v0 : Int), .int (v1 : Int)]) := upd_same
  obtain ⟨H4, hH4⟩ : ∃ H4, H4 = upd H3 Wd (.lst [.int (v0 : Int), .int (v1 : Int)]) := ⟨_, rfl⟩
  rw [← hH4] at w4 eWd ⊢
  clear hH4
  refine ⟨.ref p, rfl, p, c, 3, rfl, by decide, by decide, w4, fun H5 zm zm0 zm1 w5 k5 => ⟨1, zm, rfl, rfl, ?_⟩⟩
  obtain ⟨m, hm⟩ : ∃ m : Nat, 1 + zm = (m : Int) := ⟨(1 + zm).toNat, by omega⟩
  have m1 : 1 ≤ m := by omega
  have m3 : m ≤ 3 := by omega
  show gName 3 (.int (1 + zm)) _ _ _
  rw [hm]
  obtain ⟨u, hat, u0, u4⟩ := few_at m1 m3
  refine ⟨.ref p, rfl, .int (m : Int), rfl, (by show 3 ≤ sizeLine; decide), fun M2 hM2 => ?_⟩
  have sM2 := same_new (o := .lst [.int 4, .int 4, .int 3]) hM2
  refine ⟨.int (m : Int), rfl, (m : Int), 1, rfl, rfl, M2, _, (m : Int) - 1, .int u, rfl, rfl, .inl (.inl upd_same), hat, p, c, (m : Int), u, rfl, by omega, by omega, u0, by omega, w5.same sM2, fun H6 R ds o hrow hok hl w6 k6 => ?_⟩
  have eWd6 := k6 _ _ nW1 nW2 (sM2 _ _ (k5 _ _ nW1 nW2 eWd))
  refine ⟨.ref p, rfl, .ref R, rfl, p, c, R, (m : Int), o, ds, rfl, w6, hrow, hok, fun H7 R2 ds2 o2 hrow2 hok2 w7 k7 => ?_⟩
  have row7 := (k7.tups w6).row hrow
  have eWd7 := k7 _ _ nW1 nW2 eWd6
  refine ⟨fun σ H' => ∃ R2 ds2 o2, σ = [some (.ref a), some (.ref p), some (.ref Wd), some (.int (m : Int)), some (.ref R), some (.ref R2), none] ∧ RowAt H' R2 (m : Int) ds2 o2 ∧ RowOk (m : Int) ds2 o2 ∧ (ds2.length : Int) ≤ u ∧ RowAt H' R (m : Int) ds o ∧ H' Wd = some (.lst [.int (v0 : Int), .int (v1 : Int)]), ?_, ?_⟩
  · obtain ⟨D2, rs2, eR2, eD2, hd2⟩ := id hrow2
    have lr2 := awLen hd2
    obtain ⟨l2, hl2⟩ : ∃ l, l = rs2.map V.ref := ⟨_, rfl⟩
    have ln2 : l2.length = ds2.length := by rw [hl2, List.length_map, lr2]
    rw [← hl2] at eD2
    refine ⟨.ref R2, rfl, R2, _, 1, .ref D2, rfl, rfl, SqT.of eR2, rfl, D2, _, rfl, .inr (SqT.of eD2), (by show 3 ≤ sizeLine; decide), fun M3 hM3 => ?_⟩
    have sM3 := same_new (o := .lst [.int 4, .int 4, .int 3]) hM3
    refine ⟨.int (m : Int), rfl, (m : Int), 1, rfl, rfl, M3, _, (m : Int) - 1, .int u, rfl, rfl, .inl (.inl upd_same), hat, _, _, rfl, rfl, _, rfl, ite2 (fun _ => ?_) (fun e => ?_)⟩
    · exact ⟨.ref R, rfl, R, ds, o, rfl, (Same.tups sM3).row row7, hok, hl, (Same.tups sM3).row row7, sM3 _ _ eWd7⟩
    · have e' : ¬ ((l2.length : Int) > u) := fun z => e (decide_eq_true z)
      exact ⟨R2, ds2, o2, rfl, (Same.tups sM3).row hrow2, hok2, by omega, (Same.tups sM3).row row7, sM3 _ _ eWd7⟩
  clear hrow2 hok2
  rintro σ8 H8 ⟨R2, ds2, o2, rfl, hrow2, hok2, hl2, row8, eWd8⟩
  refine ⟨.ref Wd, rfl, Wd, rfl, ⟨_, .inl (.inl eWd8)⟩, fun C hC => ?_⟩
  refine lc_list (K := K) (a := Wd) (xs := [.int (v0 : Int), .int (v1 : Int)]) (fun j H9 => H9 C = some (.lst (([V.int ((cnt m ds o ds2 o2 v0 (ds.map fcD) (ds2.map fcD) : Nat) : Int), .int ((cnt m ds o ds2 o2 v1 (ds.map fcD) (ds2.map fcD) : Nat) : Int)]).take j)) ∧ Same H8 H9) ⟨upd_same, same_new hC⟩ (fun j H9 _ hp => .inl (.inl (hp.2 _ _ eWd8))) (fun j x H9 hx hp => ?_) (fun H9 hp => ?_)
  · obtain ⟨eC, s9⟩ := hp
    obtain ⟨wj, rfl, wj60, htk⟩ : ∃ wj : Nat, x = .int (wj : Int) ∧ wj ≤ 60 ∧ ([V.int ((cnt m ds o ds2 o2 v0 (ds.map fcD) (ds2.map fcD) : Nat) : Int), .int ((cnt m ds o ds2 o2 v1 (ds.map fcD) (ds2.map fcD) : Nat) : Int)]).take (j + 1) = ([V.int ((cnt m ds o ds2 o2 v0 (ds.map fcD) (ds2.map fcD) : Nat) : Int), .int ((cnt m ds o ds2 o2 v1 (ds.map fcD) (ds2.map fcD) : Nat) : Int)]).take j ++ [.int ((cnt m ds o ds2 o2 wj (ds.map fcD) (ds2.map fcD) : Nat) : Int)] := by
      match j, hx with
      | 0, hx => exact ⟨v0, (Option.some.inj hx).symm, v060, rfl⟩
      | 1, hx => exact ⟨v1, (Option.some.inj hx).symm, v160, rfl⟩
      | j + 2, hx => cases hx
    refine ⟨rfl, .ref R, rfl, .ref R2, rfl, .int (wj : Int), rfl, R, R2, m, m, o, o2, ds, ds2, wj, rfl, (Same.tups s9).row row8, (Same.tups s9).row hrow2, hok, hok2, wj60, fun _ H10 l1 l2 S1 S2 ps bh s10 sm1 sm2 ag gd hl => ?_, fun ne => absurd rfl ne⟩
    rw [ag_cnt sm1 sm2 ag hl wj 0 0 0 _ _ ag.first sm1.1 sm2.1]
    refine ⟨_, s10 _ _ eC, ?_, ?_, ?_⟩
    · rw [List.length_take]
      exact small1000 (by show min j 2 ≤ 1000; omega)
    · rw [upd_same, htk]
    · intro b u e
      rw [upd_ne (ne_of_none e hC)]
      exact s10 _ _ (s9 _ _ e)
  obtain ⟨eC, s9⟩ := hp
  obtain ⟨g1', g2', g3', g4'⟩ := big_two (cnt_big (m := m) (n := v0) (ds1 := ds) (o1 := o) (ds2 := ds2) (o2 := o2) (c1 := ds.map fcD) (c2 := ds2.map fcD) m3 v060) (cnt_big (m := m) (n := v1) (ds1 := ds) (o1 := o) (ds2 := ds2) (o2 := o2) (c1 := ds.map fcD) (c2 := ds2.map fcD) m3 v160)
  refine ⟨.ref C, .list [.int ((cnt m ds o ds2 o2 v0 (ds.map fcD) (ds2.map fcD) : Nat) : Int), .int ((cnt m ds o ds2 o2 v1 (ds.map fcD) (ds2.map fcD) : Nat) : Int)], rfl, .inr ⟨.lst (.inl (.inl eC)) (.cons (.int _) (.cons (.int _) .nil)), g4'⟩, g1', g2', g3', ?_⟩
  refine ⟨.ref R, rfl, .ref R2, rfl, .ref Wd, rfl, R, R2, Wd, m, v0, v1, o, o2, ds, ds2, rfl, (Same.tups s9).row row8, hok, (Same.tups s9).row hrow2, hok2, by omega, s9 _ _ eWd8, v01, v060, v11, v160, fun H10 L s10 eL => ?_⟩
  refine ⟨.ref L, .list [.int ((cnt m ds o ds2 o2 v0 (ds.map fcD) (ds2.map fcD) : Nat) : Int), .int ((cnt m ds o ds2 o2 v1 (ds.map fcD) (ds2.map fcD) : Nat) : Int)], rfl, .inr ⟨.lst (.inl (.inl eL)) (.cons (.int _) (.cons (.int _) .nil)), g4'⟩, g1', g2', g3', ?_⟩
  refine ⟨rfl, ?_⟩
  rw [decide_eq_true rfl]
/-! ### what the top has written -/
theorem all_mk {l : PySem.W.OpenLaw} {w : World} {K : PySem.W.Frag} {h : Heap} {mg : Str → Option Value} {fa : Addr} (X : K.In h) (G : h.Ns mainGlobals mg) (hfa : mg "law" = some (.ref fa))
    {f0 : Addr} {od0 an0 : Option Addr} {sl0 : Array (Option Value)} {oc0 kV0 dc0 pm0 cd0 ct0 : Value}
    {f1 : Addr} {od1 an1 : Option Addr} {sl1 : Array (Option Value)} {oc1 kV1 dc1 pm1 cd1 ct1 : Value}
    {f2 : Addr} {od2 an2 : Option Addr} {sl2 : Array (Option Value)} {oc2 kV2 dc2 pm2 cd2 ct2 : Value}
    {f3 : Addr} {od3 an3 : Option Addr} {sl3 : Array (Option Value)} {oc3 kV3 dc3 pm3 cd3 ct3 : Value}
    {f4 : Addr} {od4 an4 : Option Addr} {sl4 : Array (Option Value)} {oc4 kV4 dc4 pm4 cd4 ct4 : Value}
    {f5 : Addr} {od5 an5 : Option Addr} {sl5 : Array (Option Value)} {oc5 kV5 dc5 pm5 cd5 ct5 : Value}
    {f6 : Addr} {od6 an6 : Option Addr} {sl6 : Array (Option Value)} {oc6 kV6 dc6 pm6 cd6 ct6 : Value}
    {f7 : Addr} {od7 an7 : Option Addr} {sl7 : Array (Option Value)} {oc7 kV7 dc7 pm7 cd7 ct7 : Value}
    {f8 : Addr} {od8 an8 : Option Addr} {sl8 : Array (Option Value)} {oc8 kV8 dc8 pm8 cd8 ct8 : Value}
    {f9 : Addr} {od9 an9 : Option Addr} {sl9 : Array (Option Value)} {oc9 kV9 dc9 pm9 cd9 ct9 : Value}
    {f10 : Addr} {od10 an10 : Option Addr} {sl10 : Array (Option Value)} {oc10 kV10 dc10 pm10 cd10 ct10 : Value}
    {f11 : Addr} {od11 an11 : Option Addr} {sl11 : Array (Option Value)} {oc11 kV11 dc11 pm11 cd11 ct11 : Value}
    {f12 : Addr} {od12 an12 : Option Addr} {sl12 : Array (Option Value)} {oc12 kV12 dc12 pm12 cd12 ct12 : Value}
    {f13 : Addr} {od13 an13 : Option Addr} {sl13 : Array (Option Value)} {oc13 kV13 dc13 pm13 cd13 ct13 : Value}
    {f14 : Addr} {od14 an14 : Option Addr} {sl14 : Array (Option Value)} {oc14 kV14 dc14 pm14 cd14 ct14 : Value}
    {f15 : Addr} {od15 an15 : Option Addr} {sl15 : Array (Option Value)} {oc15 kV15 dc15 pm15 cd15 ct15 : Value}
    {f16 : Addr} {od16 an16 : Option Addr} {sl16 : Array (Option Value)} {oc16 kV16 dc16 pm16 cd16 ct16 : Value}
    {f17 : Addr} {od17 an17 : Option Addr} {sl17 : Array (Option Value)} {oc17 kV17 dc17 pm17 cd17 ct17 : Value}
    {f18 : Addr} {od18 an18 : Option Addr} {sl18 : Array (Option Value)} {oc18 kV18 dc18 pm18 cd18 ct18 : Value}
    {f19 : Addr} {od19 an19 : Option Addr} {sl19 : Array (Option Value)} {oc19 kV19 dc19 pm19 cd19 ct19 : Value}
    {f20 : Addr} {od20 an20 : Option Addr} {sl20 : Array (Option Value)} {oc20 kV20 dc20 pm20 cd20 ct20 : Value}
    {f21 : Addr} {od21 an21 : Option Addr} {sl21 : Array (Option Value)} {oc21 kV21 dc21 pm21 cd21 ct21 : Value}
    {f22 : Addr} {od22 an22 : Option Addr} {sl22 : Array (Option Value)} {oc22 kV22 dc22 pm22 cd22 ct22 : Value}
    {f23 : Addr} {od23 an23 : Option Addr} {sl23 : Array (Option Value)} {oc23 kV23 dc23 pm23 cd23 ct23 : Value}
    {f24 : Addr} {od24 an24 : Option Addr} {sl24 : Array (Option Value)} {oc24 kV24 dc24 pm24 cd24 ct24 : Value}
    {f25 : Addr} {od25 an25 : Option Addr} {sl25 : Array (Option Value)} {oc25 kV25 dc25 pm25 cd25 ct25 : Value}
    {f26 : Addr} {od26 an26 : Option Addr} {sl26 : Array (Option Value)} {oc26 kV26 dc26 pm26 cd26 ct26 : Value}
    {f27 : Addr} {od27 an27 : Option Addr} {sl27 : Array (Option Value)} {oc27 kV27 dc27 pm27 cd27 ct27 : Value}
    {f28 : Addr} {od28 an28 : Option Addr} {sl28 : Array (Option Value)} {oc28 kV28 dc28 pm28 cd28 ct28 : Value}
    {CWalk : Addr}
    {fWalk___init__ : Addr} {odWalk___init__ anWalk___init__ : Option Addr} {slWalk___init__ : Array (Option Value)} {ocWalk___init__ kVWalk___init__ dcWalk___init__ pmWalk___init__ cdWalk___init__ ctWalk___init__ : Value}
    {fWalk_meet : Addr} {odWalk_meet anWalk_meet : Option Addr} {slWalk_meet : Array (Option Value)} {ocWalk_meet kVWalk_meet dcWalk_meet pmWalk_meet cdWalk_meet ctWalk_meet : Value}
    {cWideError : Addr}
    {cNoPair : Addr}
    (a0 : PySem.W.nsIn K mainGlobals "_wall" = some (some (.ref f0)))
    (l0 : K.lookup f0 = some ⟨oc0, od0, .func (PySem.W.fnOf "_wall" "_wall" (defArgs s_wall) (defBody s_wall) (defScope s_wall) .none kV0 dc0 pm0 an0 cd0 ct0), sl0⟩)
    (c0 : PySem.W.codeIn K cd0 "_wall" = true) (k0 : PySem.W.keepIn K (.ref f0) = true)
    (a1 : PySem.W.nsIn K mainGlobals "all_bits" = some (some (.ref f1)))
    (l1 : K.lookup f1 = some ⟨oc1, od1, .func (PySem.W.fnOf "all_bits" "all_bits" (defArgs s_all_bits) (defBody s_all_bits) (defScope s_all_bits) .none kV1 dc1 pm1 an1 cd1 ct1), sl1⟩)
    (c1 : PySem.W.codeIn K cd1 "all_bits" = true) (k1 : PySem.W.keepIn K (.ref f1) = true)
    (a2 : PySem.W.nsIn K mainGlobals "first_carry" = some (some (.ref f2)))
    (l2 : K.lookup f2 = some ⟨oc2, od2, .func (PySem.W.fnOf "first_carry" "first_carry" (defArgs s_first_carry) (defBody s_first_carry) (defScope s_first_carry) .none kV2 dc2 pm2 an2 cd2 ct2), sl2⟩)
    (c2 : PySem.W.codeIn K cd2 "first_carry" = true) (k2 : PySem.W.keepIn K (.ref f2) = true)
    (a3 : PySem.W.nsIn K mainGlobals "deed_bit" = some (some (.ref f3)))
    (l3 : K.lookup f3 = some ⟨oc3, od3, .func (PySem.W.fnOf "deed_bit" "deed_bit" (defArgs s_deed_bit) (defBody s_deed_bit) (defScope s_deed_bit) .none kV3 dc3 pm3 an3 cd3 ct3), sl3⟩)
    (c3 : PySem.W.codeIn K cd3 "deed_bit" = true) (k3 : PySem.W.keepIn K (.ref f3) = true)
    (a4 : PySem.W.nsIn K mainGlobals "bits_of" = some (some (.ref f4)))
    (l4 : K.lookup f4 = some ⟨oc4, od4, .func (PySem.W.fnOf "bits_of" "bits_of" (defArgs s_bits_of) (defBody s_bits_of) (defScope s_bits_of) .none kV4 dc4 pm4 an4 cd4 ct4), sl4⟩)
    (c4 : PySem.W.codeIn K cd4 "bits_of" = true) (k4 : PySem.W.keepIn K (.ref f4) = true)
    (a5 : PySem.W.nsIn K mainGlobals "two_or_more" = some (some (.ref f5)))
    (l5 : K.lookup f5 = some ⟨oc5, od5, .func (PySem.W.fnOf "two_or_more" "two_or_more" (defArgs s_two_or_more) (defBody s_two_or_more) (defScope s_two_or_more) .none kV5 dc5 pm5 an5 cd5 ct5), sl5⟩)
    (c5 : PySem.W.codeIn K cd5 "two_or_more" = true) (k5 : PySem.W.keepIn K (.ref f5) = true)
    (a6 : PySem.W.nsIn K mainGlobals "deed_carry" = some (some (.ref f6)))
    (l6 : K.lookup f6 = some ⟨oc6, od6, .func (PySem.W.fnOf "deed_carry" "deed_carry" (defArgs s_deed_carry) (defBody s_deed_carry) (defScope s_deed_carry) .none kV6 dc6 pm6 an6 cd6 ct6), sl6⟩)
    (c6 : PySem.W.codeIn K cd6 "deed_carry" = true) (k6 : PySem.W.keepIn K (.ref f6) = true)
    (a7 : PySem.W.nsIn K mainGlobals "carry_behind" = some (some (.ref f7)))
    (l7 : K.lookup f7 = some ⟨oc7, od7, .func (PySem.W.fnOf "carry_behind" "carry_behind" (defArgs s_carry_behind) (defBody s_carry_behind) (defScope s_carry_behind) .none kV7 dc7 pm7 an7 cd7 ct7), sl7⟩)
    (c7 : PySem.W.codeIn K cd7 "carry_behind" = true) (k7 : PySem.W.keepIn K (.ref f7) = true)
    (a8 : PySem.W.nsIn K mainGlobals "steps" = some (some (.ref f8)))
    (l8 : K.lookup f8 = some ⟨oc8, od8, .func (PySem.W.fnOf "steps" "steps" (defArgs s_steps) (defBody s_steps) (defScope s_steps) .none kV8 dc8 pm8 an8 cd8 ct8), sl8⟩)
    (c8 : PySem.W.codeIn K cd8 "steps" = true) (k8 : PySem.W.keepIn K (.ref f8) = true)
    (a9 : PySem.W.nsIn K mainGlobals "both_steps" = some (some (.ref f9)))
    (l9 : K.lookup f9 = some ⟨oc9, od9, .func (PySem.W.fnOf "both_steps" "both_steps" (defArgs s_both_steps) (defBody s_both_steps) (defScope s_both_steps) .none kV9 dc9 pm9 an9 cd9 ct9), sl9⟩)
    (c9 : PySem.W.codeIn K cd9 "both_steps" = true) (k9 : PySem.W.keepIn K (.ref f9) = true)
    (a10 : PySem.W.nsIn K mainGlobals "check_pair" = some (some (.ref f10)))
    (l10 : K.lookup f10 = some ⟨oc10, od10, .func (PySem.W.fnOf "check_pair" "check_pair" (defArgs s_check_pair) (defBody s_check_pair) (defScope s_check_pair) .none kV10 dc10 pm10 an10 cd10 ct10), sl10⟩)
    (c10 : PySem.W.codeIn K cd10 "check_pair" = true) (k10 : PySem.W.keepIn K (.ref f10) = true)
    (a11 : PySem.W.nsIn K mainGlobals "whole_machine" = some (some (.ref f11)))
    (l11 : K.lookup f11 = some ⟨oc11, od11, .func (PySem.W.fnOf "whole_machine" "whole_machine" (defArgs s_whole_machine) (defBody s_whole_machine) (defScope s_whole_machine) .none kV11 dc11 pm11 an11 cd11 ct11), sl11⟩)
    (c11 : PySem.W.codeIn K cd11 "whole_machine" = true) (k11 : PySem.W.keepIn K (.ref f11) = true)
    (a12 : PySem.W.nsIn K mainGlobals "numbered" = some (some (.ref f12)))
    (l12 : K.lookup f12 = some ⟨oc12, od12, .func (PySem.W.fnOf "numbered" "numbered" (defArgs s_numbered) (defBody s_numbered) (defScope s_numbered) .none kV12 dc12 pm12 an12 cd12 ct12), sl12⟩)
    (c12 : PySem.W.codeIn K cd12 "numbered" = true) (k12 : PySem.W.keepIn K (.ref f12) = true)
    (a13 : PySem.W.nsIn K mainGlobals "kinds_of_states" = some (some (.ref f13)))
    (l13 : K.lookup f13 = some ⟨oc13, od13, .func (PySem.W.fnOf "kinds_of_states" "kinds_of_states" (defArgs s_kinds_of_states) (defBody s_kinds_of_states) (defScope s_kinds_of_states) .none kV13 dc13 pm13 an13 cd13 ct13), sl13⟩)
    (c13 : PySem.W.codeIn K cd13 "kinds_of_states" = true) (k13 : PySem.W.keepIn K (.ref f13) = true)
    (a14 : PySem.W.nsIn K mainGlobals "least_machine" = some (some (.ref f14)))
    (l14 : K.lookup f14 = some ⟨oc14, od14, .func (PySem.W.fnOf "least_machine" "least_machine" (defArgs s_least_machine) (defBody s_least_machine) (defScope s_least_machine) .none kV14 dc14 pm14 an14 cd14 ct14), sl14⟩)
    (c14 : PySem.W.codeIn K cd14 "least_machine" = true) (k14 : PySem.W.keepIn K (.ref f14) = true)
    (a15 : PySem.W.nsIn K mainGlobals "agreeing" = some (some (.ref f15)))
    (l15 : K.lookup f15 = some ⟨oc15, od15, .func (PySem.W.fnOf "agreeing" "agreeing" (defArgs s_agreeing) (defBody s_agreeing) (defScope s_agreeing) .none kV15 dc15 pm15 an15 cd15 ct15), sl15⟩)
    (c15 : PySem.W.codeIn K cd15 "agreeing" = true) (k15 : PySem.W.keepIn K (.ref f15) = true)
    (a16 : PySem.W.nsIn K mainGlobals "how_often" = some (some (.ref f16)))
    (l16 : K.lookup f16 = some ⟨oc16, od16, .func (PySem.W.fnOf "how_often" "how_often" (defArgs s_how_often) (defBody s_how_often) (defScope s_how_often) .none kV16 dc16 pm16 an16 cd16 ct16), sl16⟩)
    (c16 : PySem.W.codeIn K cd16 "how_often" = true) (k16 : PySem.W.keepIn K (.ref f16) = true)
    (a17 : PySem.W.nsIn K mainGlobals "_law_well" = some (some (.ref f17)))
    (l17 : K.lookup f17 = some ⟨oc17, od17, .func (PySem.W.fnOf "_law_well" "_law_well" (defArgs s_law_well) (defBody s_law_well) (defScope s_law_well) .none kV17 dc17 pm17 an17 cd17 ct17), sl17⟩)
    (c17 : PySem.W.codeIn K cd17 "_law_well" = true) (k17 : PySem.W.keepIn K (.ref f17) = true)
    (a18 : PySem.W.nsIn K mainGlobals "_law_draw" = some (some (.ref f18)))
    (l18 : K.lookup f18 = some ⟨oc18, od18, .func (PySem.W.fnOf "_law_draw" "_law_draw" (defArgs s_law_draw) (defBody s_law_draw) (defScope s_law_draw) .none kV18 dc18 pm18 an18 cd18 ct18), sl18⟩)
    (c18 : PySem.W.codeIn K cd18 "_law_draw" = true) (k18 : PySem.W.keepIn K (.ref f18) = true)
    (a19 : PySem.W.nsIn K mainGlobals "_law_first_words" = some (some (.ref f19)))
    (l19 : K.lookup f19 = some ⟨oc19, od19, .func (PySem.W.fnOf "_law_first_words" "_law_first_words" (defArgs s_law_first_words) (defBody s_law_first_words) (defScope s_law_first_words) .none kV19 dc19 pm19 an19 cd19 ct19), sl19⟩)
    (c19 : PySem.W.codeIn K cd19 "_law_first_words" = true) (k19 : PySem.W.keepIn K (.ref f19) = true)
    (a20 : PySem.W.nsIn K mainGlobals "_law_deed" = some (some (.ref f20)))
    (l20 : K.lookup f20 = some ⟨oc20, od20, .func (PySem.W.fnOf "_law_deed" "_law_deed" (defArgs s_law_deed) (defBody s_law_deed) (defScope s_law_deed) .none kV20 dc20 pm20 an20 cd20 ct20), sl20⟩)
    (c20 : PySem.W.codeIn K cd20 "_law_deed" = true) (k20 : PySem.W.keepIn K (.ref f20) = true)
    (a21 : PySem.W.nsIn K mainGlobals "_law_row" = some (some (.ref f21)))
    (l21 : K.lookup f21 = some ⟨oc21, od21, .func (PySem.W.fnOf "_law_row" "_law_row" (defArgs s_law_row) (defBody s_law_row) (defScope s_law_row) .none kV21 dc21 pm21 an21 cd21 ct21), sl21⟩)
    (c21 : PySem.W.codeIn K cd21 "_law_row" = true) (k21 : PySem.W.keepIn K (.ref f21) = true)
    (a22 : PySem.W.nsIn K mainGlobals "_law_second" = some (some (.ref f22)))
    (l22 : K.lookup f22 = some ⟨oc22, od22, .func (PySem.W.fnOf "_law_second" "_law_second" (defArgs s_law_second) (defBody s_law_second) (defScope s_law_second) .none kV22 dc22 pm22 an22 cd22 ct22), sl22⟩)
    (c22 : PySem.W.codeIn K cd22 "_law_second" = true) (k22 : PySem.W.keepIn K (.ref f22) = true)
    (a23 : PySem.W.nsIn K mainGlobals "_law_step" = some (some (.ref f23)))
    (l23 : K.lookup f23 = some ⟨oc23, od23, .func (PySem.W.fnOf "_law_step" "_law_step" (defArgs s_law_step) (defBody s_law_step) (defScope s_law_step) .none kV23 dc23 pm23 an23 cd23 ct23), sl23⟩)
    (c23 : PySem.W.codeIn K cd23 "_law_step" = true) (k23 : PySem.W.keepIn K (.ref f23) = true)
    (a24 : PySem.W.nsIn K mainGlobals "_law_first" = some (some (.ref f24)))
    (l24 : K.lookup f24 = some ⟨oc24, od24, .func (PySem.W.fnOf "_law_first" "_law_first" (defArgs s_law_first) (defBody s_law_first) (defScope s_law_first) .none kV24 dc24 pm24 an24 cd24 ct24), sl24⟩)
    (c24 : PySem.W.codeIn K cd24 "_law_first" = true) (k24 : PySem.W.keepIn K (.ref f24) = true)
    (a25 : PySem.W.nsIn K mainGlobals "_law_choices" = some (some (.ref f25)))
    (l25 : K.lookup f25 = some ⟨oc25, od25, .func (PySem.W.fnOf "_law_choices" "_law_choices" (defArgs s_law_choices) (defBody s_law_choices) (defScope s_law_choices) .none kV25 dc25 pm25 an25 cd25 ct25), sl25⟩)
    (c25 : PySem.W.codeIn K cd25 "_law_choices" = true) (k25 : PySem.W.keepIn K (.ref f25) = true)
    (a26 : PySem.W.nsIn K mainGlobals "_law_behind" = some (some (.ref f26)))
    (l26 : K.lookup f26 = some ⟨oc26, od26, .func (PySem.W.fnOf "_law_behind" "_law_behind" (defArgs s_law_behind) (defBody s_law_behind) (defScope s_law_behind) .none kV26 dc26 pm26 an26 cd26 ct26), sl26⟩)
    (c26 : PySem.W.codeIn K cd26 "_law_behind" = true) (k26 : PySem.W.keepIn K (.ref f26) = true)
    (a27 : PySem.W.nsIn K mainGlobals "_law_counts" = some (some (.ref f27)))
    (l27 : K.lookup f27 = some ⟨oc27, od27, .func (PySem.W.fnOf "_law_counts" "_law_counts" (defArgs s_law_counts) (defBody s_law_counts) (defScope s_law_counts) .none kV27 dc27 pm27 an27 cd27 ct27), sl27⟩)
    (c27 : PySem.W.codeIn K cd27 "_law_counts" = true) (k27 : PySem.W.keepIn K (.ref f27) = true)
    (a28 : PySem.W.nsIn K mainGlobals "law" = some (some (.ref f28)))
    (l28 : K.lookup f28 = some ⟨oc28, od28, .func (PySem.W.fnOf "law" "law" (defArgs s_law) (defBody s_law) (defScope s_law) .none kV28 dc28 pm28 an28 cd28 ct28), sl28⟩)
    (c28 : PySem.W.codeIn K cd28 "law" = true) (k28 : PySem.W.keepIn K (.ref f28) = true)
    (oa_Walk : PySem.W.nsIn K mainGlobals "Walk" = some (some (.ref CWalk)))
    (ma_Walk___init__ : PySem.W.findIn K (.ref CWalk) "__init__" = some (some (.ref fWalk___init__)))
    (mi_Walk___init__ : PySem.W.isFn K (.ref fWalk___init__) = true)
    (ml_Walk___init__ : K.lookup fWalk___init__ = some ⟨ocWalk___init__, odWalk___init__, .func (PySem.W.fnOf "__init__" "Walk.__init__" (defArgs sWalk___init__) (defBody sWalk___init__) (defScope sWalk___init__) .none kVWalk___init__ dcWalk___init__ pmWalk___init__ anWalk___init__ cdWalk___init__ ctWalk___init__), slWalk___init__⟩)
    (mc_Walk___init__ : PySem.W.codeIn K cdWalk___init__ "Walk.__init__" = true)
    (mk_Walk___init__ : PySem.W.keepIn K (.ref fWalk___init__) = true)
    (ma_Walk_meet : PySem.W.findIn K (.ref CWalk) "meet" = some (some (.ref fWalk_meet)))
    (mi_Walk_meet : PySem.W.isFn K (.ref fWalk_meet) = true)
    (ml_Walk_meet : K.lookup fWalk_meet = some ⟨ocWalk_meet, odWalk_meet, .func (PySem.W.fnOf "meet" "Walk.meet" (defArgs sWalk_meet) (defBody sWalk_meet) (defScope sWalk_meet) .none kVWalk_meet dcWalk_meet pmWalk_meet anWalk_meet cdWalk_meet ctWalk_meet), slWalk_meet⟩)
    (mc_Walk_meet : PySem.W.codeIn K cdWalk_meet "Walk.meet" = true)
    (mk_Walk_meet : PySem.W.keepIn K (.ref fWalk_meet) = true)
    (pg_Walk : PySem.W.plainGet K CWalk Str.empty = true)
    (hd_Walk : PySem.W.hasDictIn K CWalk = true)
    (po_Walk : PySem.W.plainOver K CWalk = true)
    (sa_Walk : PySem.W.findIn K (.ref CWalk) "__setattr__" = some (some (.builtin "object.__setattr__")))
    (mk_Walk : PySem.W.makesIn K CWalk = true)
    (kc_Walk : PySem.W.keepIn K (.ref CWalk) = true)
    (na_Walk_met : PySem.W.findIn K (.ref CWalk) "met" = some none)
    (na_Walk_numbers : PySem.W.findIn K (.ref CWalk) "numbers" = some none)
    (na_Walk_ways : PySem.W.findIn K (.ref CWalk) "ways" = some none)
    (a_WideError : PySem.W.nsIn K mainGlobals "WideError" = some (some (.ref cWideError)))
    (x_WideError : PySem.W.excIn K cWideError [.type "ValueError", .type "Exception", .type "BaseException", .type "object"] "ValueError.__new__" = true)
    (k_WideError : PySem.W.keepIn K (.ref cWideError) = true)
    (e1_WideError : PySem.W.findIn K (.ref cWideError) "__getattribute__" = some (some (.builtin "BaseException.__getattribute__")))
    (e2_WideError : PySem.W.findIn K (.ref cWideError) "__getattr__" = some none)
    (e3_WideError : PySem.W.subIn K (.ref cWideError) (.type "BaseException") = some true)
    (e4_WideError : PySem.W.hasDictIn K cWideError = true)
    (e5_WideError : PySem.W.findIn K (.ref cWideError) "__class__" = some (some (.builtin "object.__class__")))
    (e6_WideError : PySem.W.specialIn K (.builtin "object.__class__") "__get__" = some (some (.builtin "getset_descriptor.__get__")))
    (e7_WideError : PySem.W.takesIn K (.builtin "object.__class__") = some true)
    (e8_WideError : PySem.W.mroIn K cWideError (.type "object") = some true)
    (e9_WideError : PySem.W.isClsIn K cWideError = true)
    (e10_WideError : PySem.W.typeIn K (.ref cWideError) = some (.type "type"))
    (e11_WideError : PySem.W.subIn K (.ref cWideError) (.type "ValueError") = some true)
    (a_NoPair : PySem.W.nsIn K mainGlobals "NoPair" = some (some (.ref cNoPair)))
    (x_NoPair : PySem.W.excIn K cNoPair [.type "ValueError", .type "Exception", .type "BaseException", .type "object"] "ValueError.__new__" = true)
    (k_NoPair : PySem.W.keepIn K (.ref cNoPair) = true)
    (e1_NoPair : PySem.W.findIn K (.ref cNoPair) "__getattribute__" = some (some (.builtin "BaseException.__getattribute__")))
    (e2_NoPair : PySem.W.findIn K (.ref cNoPair) "__getattr__" = some none)
    (e3_NoPair : PySem.W.subIn K (.ref cNoPair) (.type "BaseException") = some true)
    (e4_NoPair : PySem.W.hasDictIn K cNoPair = true)
    (e5_NoPair : PySem.W.findIn K (.ref cNoPair) "__class__" = some (some (.builtin "object.__class__")))
    (e6_NoPair : PySem.W.specialIn K (.builtin "object.__class__") "__get__" = some (some (.builtin "getset_descriptor.__get__")))
    (e7_NoPair : PySem.W.takesIn K (.builtin "object.__class__") = some true)
    (e8_NoPair : PySem.W.mroIn K cNoPair (.type "object") = some true)
    (e9_NoPair : PySem.W.isClsIn K cNoPair = true)
    (e10_NoPair : PySem.W.typeIn K (.ref cNoPair) = some (.type "type"))
    (e11_NoPair : PySem.W.subIn K (.ref cNoPair) (.type "ValueError") = some true)
    (s_WideError_WideError : PySem.W.subIn K (.ref cWideError) (.ref cWideError) = some true)
    (s_WideError_NoPair : PySem.W.subIn K (.ref cWideError) (.ref cNoPair) = some false)
    (s_NoPair_WideError : PySem.W.subIn K (.ref cNoPair) (.ref cWideError) = some true)
    (s_NoPair_NoPair : PySem.W.subIn K (.ref cNoPair) (.ref cNoPair) = some true)
    (z_abs : PySem.W.nsIn K mainGlobals "abs" = some none)
    (z_enumerate : PySem.W.nsIn K mainGlobals "enumerate" = some none)
    (z_int : PySem.W.nsIn K mainGlobals "int" = some none)
    (z_len : PySem.W.nsIn K mainGlobals "len" = some none)
    (z_list : PySem.W.nsIn K mainGlobals "list" = some none)
    (z_max : PySem.W.nsIn K mainGlobals "max" = some none)
    (z_range : PySem.W.nsIn K mainGlobals "range" = some none)
    (z_repr : PySem.W.nsIn K mainGlobals "repr" = some none)
    (z_sum : PySem.W.nsIn K mainGlobals "sum" = some none)
    (z_tuple : PySem.W.nsIn K mainGlobals "tuple" = some none)
    (z_zip : PySem.W.nsIn K mainGlobals "zip" = some none)
    : ∀ (s : Shared) (a : Addr) (ns : List Int) (base : Heap) (H : Hp), ns.length ≤ 63 → (∀ z ∈ ns, Builtin.Int.intBits z ≤ 1048576) → Env0 l.prog w K mg base callerA [] s H → SqL K H a (ns.map V.int) →
      codeAny (model l.prog w) callerA (.call (.ref fa) ⟨[.ref a], []⟩) (CR CX0 [] l.prog w H s (fun v _ => v = .bl true) E0) s := by
  have F_wall := fun_mk (st := s_wall) l0 c0 k0
  have b_wall := F_wall.binds (ps := ["k"]) fun _ _ _ _ _ _ us hl => match us, hl with | [_], _ => rfl
  have g_wall := PySem.W.mg_of X G a0
  have F_all_bits := fun_mk (st := s_all_bits) l1 c1 k1
  have b_all_bits := F_all_bits.binds (ps := ["many"]) fun _ _ _ _ _ _ us hl => match us, hl with | [_], _ => rfl
  have g_all_bits := PySem.W.mg_of X G a1
  have F_first_carry := fun_mk (st := s_first_carry) l2 c2 k2
  have b_first_carry := F_first_carry.binds (ps := ["row"]) fun _ _ _ _ _ _ us hl => match us, hl with | [_], _ => rfl
  have g_first_carry := PySem.W.mg_of X G a2
  have F_deed_bit := fun_mk (st := s_deed_bit) l3 c3 k3
  have b_deed_bit := F_deed_bit.binds (ps := ["deed", "held", "told"]) fun _ _ _ _ _ _ us hl => match us, hl with | [_, _, _], _ => rfl
  have g_deed_bit := PySem.W.mg_of X G a3
  have F_bits_of := fun_mk (st := s_bits_of) l4 c4 k4
  have b_bits_of := F_bits_of.binds (ps := ["row", "carry", "bits"]) fun _ _ _ _ _ _ us hl => match us, hl with | [_, _, _], _ => rfl
  have g_bits_of := PySem.W.mg_of X G a4
  have F_two_or_more := fun_mk (st := s_two_or_more) l5 c5 k5
  have b_two_or_more := F_two_or_more.binds (ps := ["one", "other", "third"]) fun _ _ _ _ _ _ us hl => match us, hl with | [_, _, _], _ => rfl
  have g_two_or_more := PySem.W.mg_of X G a5
  have F_deed_carry := fun_mk (st := s_deed_carry) l6 c6 k6
  have b_deed_carry := F_deed_carry.binds (ps := ["deed", "held", "told"]) fun _ _ _ _ _ _ us hl => match us, hl with | [_, _, _], _ => rfl
  have g_deed_carry := PySem.W.mg_of X G a6
  have F_carry_behind := fun_mk (st := s_carry_behind) l7 c7 k7
  have b_carry_behind := F_carry_behind.binds (ps := ["row", "carry", "told"]) fun _ _ _ _ _ _ us hl => match us, hl with | [_, _, _], _ => rfl
  have g_carry_behind := PySem.W.mg_of X G a7
  have F_steps := fun_mk (st := s_steps) l8 c8 k8
  have b_steps := F_steps.binds (ps := ["row", "carry"]) fun _ _ _ _ _ _ us hl => match us, hl with | [_, _], _ => rfl
  have g_steps := PySem.W.mg_of X G a8
  have F_both_steps := fun_mk (st := s_both_steps) l9 c9 k9
  have b_both_steps := F_both_steps.binds (ps := ["ones", "others"]) fun _ _ _ _ _ _ us hl => match us, hl with | [_, _], _ => rfl
  have g_both_steps := PySem.W.mg_of X G a9
  have F_check_pair := fun_mk (st := s_check_pair) l10 c10 k10
  have b_check_pair := F_check_pair.binds (ps := ["row", "other"]) fun _ _ _ _ _ _ us hl => match us, hl with | [_, _], _ => rfl
  have g_check_pair := PySem.W.mg_of X G a10
  have F_whole_machine := fun_mk (st := s_whole_machine) l11 c11 k11
  have b_whole_machine := F_whole_machine.binds (ps := ["row"]) fun _ _ _ _ _ _ us hl => match us, hl with | [_], _ => rfl
  have g_whole_machine := PySem.W.mg_of X G a11
  have F_numbered := fun_mk (st := s_numbered) l12 c12 k12
  have b_numbered := F_numbered.binds (ps := ["looks"]) fun _ _ _ _ _ _ us hl => match us, hl with | [_], _ => rfl
  have g_numbered := PySem.W.mg_of X G a12
  have F_kinds_of_states := fun_mk (st := s_kinds_of_states) l13 c13 k13
  have b_kinds_of_states := F_kinds_of_states.binds (ps := ["machine"]) fun _ _ _ _ _ _ us hl => match us, hl with | [_], _ => rfl
  have g_kinds_of_states := PySem.W.mg_of X G a13
  have F_least_machine := fun_mk (st := s_least_machine) l14 c14 k14
  have b_least_machine := F_least_machine.binds (ps := ["row"]) fun _ _ _ _ _ _ us hl => match us, hl with | [_], _ => rfl
  have g_least_machine := PySem.W.mg_of X G a14
  have F_agreeing := fun_mk (st := s_agreeing) l15 c15 k15
  have b_agreeing := F_agreeing.binds (ps := ["row", "other"]) fun _ _ _ _ _ _ us hl => match us, hl with | [_, _], _ => rfl
  have g_agreeing := PySem.W.mg_of X G a15
  have F_how_often := fun_mk (st := s_how_often) l16 c16 k16
  have b_how_often := F_how_often.binds (ps := ["row", "other", "width"]) fun _ _ _ _ _ _ us hl => match us, hl with | [_, _, _], _ => rfl
  have g_how_often := PySem.W.mg_of X G a16
  have F_law_well := fun_mk (st := s_law_well) l17 c17 k17
  have b_law_well := F_law_well.binds (ps := ["script"]) fun _ _ _ _ _ _ us hl => match us, hl with | [_], _ => rfl
  have g_law_well := PySem.W.mg_of X G a17
  have F_law_draw := fun_mk (st := s_law_draw) l18 c18 k18
  have b_law_draw := F_law_draw.binds (ps := ["well", "many"]) fun _ _ _ _ _ _ us hl => match us, hl with | [_, _], _ => rfl
  have g_law_draw := PySem.W.mg_of X G a18
  have F_law_first_words := fun_mk (st := s_law_first_words) l19 c19 k19
  have b_law_first_words := F_law_first_words.binds (ps := []) fun _ _ _ _ _ _ us hl => match us, hl with | [], _ => rfl
  have g_law_first_words := PySem.W.mg_of X G a19
  have F_law_deed := fun_mk (st := s_law_deed) l20 c20 k20
  have b_law_deed := F_law_deed.binds (ps := ["well", "ahead"]) fun _ _ _ _ _ _ us hl => match us, hl with | [_, _], _ => rfl
  have g_law_deed := PySem.W.mg_of X G a20
  have F_law_row := fun_mk (st := s_law_row) l21 c21 k21
  have b_law_row := F_law_row.binds (ps := ["well", "many", "most"]) fun _ _ _ _ _ _ us hl => match us, hl with | [_, _, _], _ => rfl
  have g_law_row := PySem.W.mg_of X G a21
  have F_law_second := fun_mk (st := s_law_second) l22 c22 k22
  have b_law_second := F_law_second.binds (ps := ["well", "row"]) fun _ _ _ _ _ _ us hl => match us, hl with | [_, _], _ => rfl
  have g_law_second := PySem.W.mg_of X G a22
  have F_law_step := fun_mk (st := s_law_step) l23 c23 k23
  have b_law_step := F_law_step.binds (ps := ["row", "carry", "bits"]) fun _ _ _ _ _ _ us hl => match us, hl with | [_, _, _], _ => rfl
  have g_law_step := PySem.W.mg_of X G a23
  have F_law_first := fun_mk (st := s_law_first) l24 c24 k24
  have b_law_first := F_law_first.binds (ps := ["row"]) fun _ _ _ _ _ _ us hl => match us, hl with | [_], _ => rfl
  have g_law_first := PySem.W.mg_of X G a24
  have F_law_choices := fun_mk (st := s_law_choices) l25 c25 k25
  have b_law_choices := F_law_choices.binds (ps := ["many"]) fun _ _ _ _ _ _ us hl => match us, hl with | [_], _ => rfl
  have g_law_choices := PySem.W.mg_of X G a25
  have F_law_behind := fun_mk (st := s_law_behind) l26 c26 k26
  have b_law_behind := F_law_behind.binds (ps := ["row", "other", "pair"]) fun _ _ _ _ _ _ us hl => match us, hl with | [_, _, _], _ => rfl
  have g_law_behind := PySem.W.mg_of X G a26
  have F_law_counts := fun_mk (st := s_law_counts) l27 c27 k27
  have b_law_counts := F_law_counts.binds (ps := ["row", "other", "widths"]) fun _ _ _ _ _ _ us hl => match us, hl with | [_, _, _], _ => rfl
  have g_law_counts := PySem.W.mg_of X G a27
  have F_law := fun_mk (st := s_law) l28 c28 k28
  have b_law := F_law.binds (ps := ["script"]) fun _ _ _ _ _ _ us hl => match us, hl with | [_], _ => rfl
  obtain rfl : fa = f28 := by
    have e := hfa.symm.trans (PySem.W.mg_of X G a28)
    cases e
    rfl
  have FWalk___init__ := fun_mk (st := sWalk___init__) ml_Walk___init__ mc_Walk___init__ mk_Walk___init__
  have MWalk___init__ : Meth K CWalk "__init__" fWalk___init__ := ⟨ma_Walk___init__, mi_Walk___init__, mk_Walk___init__⟩
  have FWalk_meet := fun_mk (st := sWalk_meet) ml_Walk_meet mc_Walk_meet mk_Walk_meet
  have MWalk_meet : Meth K CWalk "meet" fWalk_meet := ⟨ma_Walk_meet, mi_Walk_meet, mk_Walk_meet⟩
  have TWalk : Cls K CWalk := ⟨pg_Walk, hd_Walk, po_Walk, sa_Walk⟩
  have gWalk := PySem.W.mg_of X G oa_Walk
  have KWalk : Mk K CWalk fWalk___init__ := ⟨mk_Walk, ma_Walk___init__, mi_Walk___init__, kc_Walk⟩
  have g_WideError := PySem.W.mg_of X G a_WideError
  have X_WideError : ExcC K cWideError := ⟨e1_WideError, e2_WideError, e3_WideError, e4_WideError, e5_WideError, e6_WideError, e7_WideError, e8_WideError⟩
  have g_NoPair := PySem.W.mg_of X G a_NoPair
  have X_NoPair : ExcC K cNoPair := ⟨e1_NoPair, e2_NoPair, e3_NoPair, e4_NoPair, e5_NoPair, e6_NoPair, e7_NoPair, e8_NoPair⟩
  have t_WideError_WideError := kit_ref e9_WideError e10_WideError s_WideError_WideError s_WideError_WideError
  have t_WideError_NoPair := kit_ref e9_NoPair e10_NoPair s_WideError_NoPair s_NoPair_NoPair
  have v_WideError := kit_ve e11_WideError
  have t_NoPair_WideError := kit_ref e9_WideError e10_WideError s_NoPair_WideError s_WideError_WideError
  have t_NoPair_NoPair := kit_ref e9_NoPair e10_NoPair s_NoPair_NoPair s_NoPair_NoPair
  have v_NoPair := kit_ve e11_NoPair
  have m_abs := PySem.W.mg_none_of X G z_abs
  have m_enumerate := PySem.W.mg_none_of X G z_enumerate
  have m_int := PySem.W.mg_none_of X G z_int
  have m_len := PySem.W.mg_none_of X G z_len
  have m_list := PySem.W.mg_none_of X G z_list
  have m_max := PySem.W.mg_none_of X G z_max
  have m_range := PySem.W.mg_none_of X G z_range
  have m_repr := PySem.W.mg_none_of X G z_repr
  have m_sum := PySem.W.mg_none_of X G z_sum
  have m_tuple := PySem.W.mg_none_of X G z_tuple
  have m_zip := PySem.W.mg_none_of X G z_zip
  intro s a ns base H hlen hbits e0 hS
  have GD := ok_draw (P := l.prog) (w := w) (mg := mg) (base := base) (k := 0) F_law_draw
  have GE := ok_deed (P := l.prog) (w := w) (mg := mg) (base := base) (k := 0) F_law_deed F_law_draw F_law_first_words b_law_draw b_law_first_words g_law_draw g_law_first_words m_list m_tuple m_range
  have GR := ok_row (P := l.prog) (w := w) (mg := mg) (base := base) (k := 0) F_law_row GD F_law_draw.kp GE F_law_deed.kp b_law_draw b_law_deed g_law_draw g_law_deed m_tuple m_range
  have GW := ok_well (P := l.prog) (w := w) (mg := mg) (base := base) (k := 0) F_law_well m_abs
  have GF := ok_fc (P := l.prog) (w := w) (mg := mg) (base := base) (k := 0) F_first_carry m_tuple
  have GDb := ok_db (P := l.prog) (w := w) (mg := mg) (base := base) (k := 0) F_deed_bit
  have GB := ok_bo (P := l.prog) (w := w) (mg := mg) (base := base) (k := 0) F_bits_of GDb F_deed_bit.kp b_deed_bit g_deed_bit m_list m_tuple m_zip
  have GTm := ok_tm (P := l.prog) (w := w) (mg := mg) (base := base) (k := 0) F_two_or_more
  have GDc := ok_dc (P := l.prog) (w := w) (mg := mg) (base := base) (k := 0) F_deed_carry GTm F_two_or_more.kp b_two_or_more g_two_or_more
  have GCb := ok_cb (P := l.prog) (w := w) (mg := mg) (base := base) (k := 0) F_carry_behind GDc F_deed_carry.kp b_deed_carry g_deed_carry m_tuple m_zip
  have GAl := ok_all (P := l.prog) (w := w) (mg := mg) (base := base) (k := 0) F_all_bits m_range
  have GSt := ok_st (P := l.prog) (w := w) (mg := mg) (base := base) (k := 0) F_steps GAl F_all_bits.kp b_all_bits g_all_bits GB F_bits_of.kp b_bits_of g_bits_of GCb F_carry_behind.kp b_carry_behind g_carry_behind
  have WT : WCls K mg CWalk := ⟨TWalk, na_Walk_met, na_Walk_numbers, na_Walk_ways, gWalk⟩
  have bI := FWalk___init__.binds (ps := ["self", "first"]) fun _ _ _ _ _ _ us hl => match us, hl with | [_, _], _ => rfl
  have bM := FWalk_meet.binds (ps := ["self", "thing", "ahead", "bits"]) fun _ _ _ _ _ _ us hl => match us, hl with | [_, _, _, _], _ => rfl
  have GI := ok_wi (P := l.prog) (w := w) (mg := mg) (base := base) (k := 0) FWalk___init__ WT
  have GM := ok_wm (P := l.prog) (w := w) (mg := mg) (base := base) (k := 0) FWalk_meet WT m_len
  have GWh := ok_wh (P := l.prog) (w := w) (mg := mg) (base := base) (k := 0) F_whole_machine WT GAl F_all_bits.kp b_all_bits g_all_bits GF F_first_carry.kp b_first_carry g_first_carry GSt F_steps.kp b_steps g_steps KWalk GI bI MWalk_meet GM bM m_len m_zip
  have GN := ok_nu (P := l.prog) (w := w) (mg := mg) (base := base) (k := 0) F_numbered m_len
  have GKi := ok_ki (P := l.prog) (w := w) (mg := mg) (base := base) (k := 0) F_kinds_of_states GN F_numbered.kp b_numbered g_numbered m_max m_tuple m_list m_zip
  have GLm := ok_lm (P := l.prog) (w := w) (mg := mg) (base := base) (k := 0) F_least_machine GWh F_whole_machine.kp b_whole_machine g_whole_machine GKi F_kinds_of_states.kp b_kinds_of_states g_kinds_of_states m_len m_zip
  have GBs := ok_bs (P := l.prog) (w := w) (mg := mg) (base := base) (k := 0) F_both_steps m_zip
  have GAg := ok_ag (P := l.prog) (w := w) (mg := mg) (base := base) (k := 0) F_agreeing WT GLm F_least_machine.kp b_least_machine g_least_machine GAl F_all_bits.kp b_all_bits g_all_bits GBs F_both_steps.kp b_both_steps g_both_steps KWalk GI bI MWalk_meet GM bM m_len m_zip
  have rP : Rai K mg "NoPair" cNoPair := ⟨x_NoPair, g_NoPair, k_NoPair, e3_NoPair, e10_NoPair⟩
  have GCp := ok_cp (P := l.prog) (w := w) (base := base) (k := 0) F_check_pair rP
  have GHo := ok_ho (P := l.prog) (w := w) (mg := mg) (base := base) (k := 0) F_how_often GCp F_check_pair.kp b_check_pair g_check_pair GAg F_agreeing.kp b_agreeing g_agreeing m_len m_range m_sum
  have GSe := ok_se (P := l.prog) (w := w) (mg := mg) (base := base) (k := 0) F_law_second GD F_law_draw.kp b_law_draw g_law_draw GE F_law_deed.kp b_law_deed g_law_deed GR F_law_row.kp b_law_row g_law_row m_len
  have GF1 := ok_f1 (P := l.prog) (w := w) (mg := mg) (base := base) (k := 0) F_law_first m_tuple m_int
  have GL1 := ok_l1 (P := l.prog) (w := w) (mg := mg) (base := base) (k := 0) F_law_step m_list m_tuple m_enumerate m_int
  have GCh := ok_ch (P := l.prog) (w := w) (mg := mg) (base := base) (k := 0) F_law_choices m_range
  have GBh := ok_bh (P := l.prog) (w := w) (mg := mg) (base := base) (k := 0) F_law_behind GL1 F_law_step.kp b_law_step g_law_step GCh F_law_choices.kp b_law_choices g_law_choices
  have GCt := ok_ct (P := l.prog) (w := w) (mg := mg) (base := base) (k := 0) F_law_counts GF1 F_law_first.kp b_law_first g_law_first GBh F_law_behind.kp b_law_behind g_law_behind m_range m_max m_sum
  exact law_run F_law b_law GW F_law_well.kp b_law_well g_law_well GD F_law_draw.kp b_law_draw g_law_draw GR F_law_row.kp b_law_row g_law_row GSe F_law_second.kp b_law_second g_law_second GHo F_how_often.kp b_how_often g_how_often GCt F_law_counts.kp b_law_counts g_law_counts m_len m_repr hlen hbits e0 hS
end
end KK
open PySem PySem.W PyProof.Rows
set_option maxHeartbeats 0 in
theorem PySem.Challenge.cw_anywide_k31_agreeing_choices_at_any_widt_holds : PySem.Challenge.rw_anywide_k31_agreeing_choices_at_any_widt.Holds := by
  w_on; o_law; k_head; (case hw => w_witness2)
  k_fill
  refine AW.walkG (l := PySem.Challenge.rw_anywide_k31_agreeing_choices_at_any_widt) (n := 63) rfl (by decide) rfl (fun w h Y => PySem.W.kIn_of Y) ?F
  case F =>
    intro w mg fa h KX G hmg
    refine' KK.all_mk KX G hmg ?a0 ?l0 ?c0 ?k0 ?a1 ?l1 ?c1 ?k1 ?a2 ?l2 ?c2 ?k2 ?a3 ?l3 ?c3 ?k3 ?a4 ?l4 ?c4 ?k4 ?a5 ?l5 ?c5 ?k5 ?a6 ?l6 ?c6 ?k6 ?a7 ?l7 ?c7 ?k7 ?a8 ?l8 ?c8 ?k8 ?a9 ?l9 ?c9 ?k9 ?a10 ?l10 ?c10 ?k10 ?a11 ?l11 ?c11 ?k11 ?a12 ?l12 ?c12 ?k12 ?a13 ?l13 ?c13 ?k13 ?a14 ?l14 ?c14 ?k14 ?a15 ?l15 ?c15 ?k15 ?a16 ?l16 ?c16 ?k16 ?a17 ?l17 ?c17 ?k17 ?a18 ?l18 ?c18 ?k18 ?a19 ?l19 ?c19 ?k19 ?a20 ?l20 ?c20 ?k20 ?a21 ?l21 ?c21 ?k21 ?a22 ?l22 ?c22 ?k22 ?a23 ?l23 ?c23 ?k23 ?a24 ?l24 ?c24 ?k24 ?a25 ?l25 ?c25 ?k25 ?a26 ?l26 ?c26 ?k26 ?a27 ?l27 ?c27 ?k27 ?a28 ?l28 ?c28 ?k28 ?oa_Walk ?ma_Walk___init__ ?mi_Walk___init__ ?ml_Walk___init__ ?mc_Walk___init__ ?mk_Walk___init__ ?ma_Walk_meet ?mi_Walk_meet ?ml_Walk_meet ?mc_Walk_meet ?mk_Walk_meet ?pg_Walk ?hd_Walk ?po_Walk ?sa_Walk ?mk_Walk ?kc_Walk ?na_Walk_met ?na_Walk_numbers ?na_Walk_ways ?a_WideError ?x_WideError ?k_WideError ?e1_WideError ?e2_WideError ?e3_WideError ?e4_WideError ?e5_WideError ?e6_WideError ?e7_WideError ?e8_WideError ?e9_WideError ?e10_WideError ?e11_WideError ?a_NoPair ?x_NoPair ?k_NoPair ?e1_NoPair ?e2_NoPair ?e3_NoPair ?e4_NoPair ?e5_NoPair ?e6_NoPair ?e7_NoPair ?e8_NoPair ?e9_NoPair ?e10_NoPair ?e11_NoPair ?s_WideError_WideError ?s_WideError_NoPair ?s_NoPair_WideError ?s_NoPair_NoPair ?z_abs ?z_enumerate ?z_int ?z_len ?z_list ?z_max ?z_range ?z_repr ?z_sum ?z_tuple ?z_zip
    (case a0 => k_is)
    (case l0 => k_is)
    (case c0 => k_is)
    (case k0 => k_is)
    (case a1 => k_is)
    (case l1 => k_is)
    (case c1 => k_is)
    (case k1 => k_is)
    (case a2 => k_is)
    (case l2 => k_is)
    (case c2 => k_is)
    (case k2 => k_is)
    (case a3 => k_is)
    (case l3 => k_is)
    (case c3 => k_is)
    (case k3 => k_is)
    (case a4 => k_is)
    (case l4 => k_is)
    (case c4 => k_is)
    (case k4 => k_is)
    (case a5 => k_is)
    (case l5 => k_is)
    (case c5 => k_is)
    (case k5 => k_is)
    (case a6 => k_is)
    (case l6 => k_is)
    (case c6 => k_is)
    (case k6 => k_is)
    (case a7 => k_is)
    (case l7 => k_is)
    (case c7 => k_is)
    (case k7 => k_is)
    (case a8 => k_is)
    (case l8 => k_is)
    (case c8 => k_is)
    (case k8 => k_is)
    (case a9 => k_is)
    (case l9 => k_is)
    (case c9 => k_is)
    (case k9 => k_is)
    (case a10 => k_is)
    (case l10 => k_is)
    (case c10 => k_is)
    (case k10 => k_is)
    (case a11 => k_is)
    (case l11 => k_is)
    (case c11 => k_is)
    (case k11 => k_is)
    (case a12 => k_is)
    (case l12 => k_is)
    (case c12 => k_is)
    (case k12 => k_is)
    (case a13 => k_is)
    (case l13 => k_is)
    (case c13 => k_is)
    (case k13 => k_is)
    (case a14 => k_is)
    (case l14 => k_is)
    (case c14 => k_is)
    (case k14 => k_is)
    (case a15 => k_is)
    (case l15 => k_is)
    (case c15 => k_is)
    (case k15 => k_is)
    (case a16 => k_is)
    (case l16 => k_is)
    (case c16 => k_is)
    (case k16 => k_is)
    (case a17 => k_is)
    (case l17 => k_is)
    (case c17 => k_is)
    (case k17 => k_is)
    (case a18 => k_is)
    (case l18 => k_is)
    (case c18 => k_is)
    (case k18 => k_is)
    (case a19 => k_is)
    (case l19 => k_is)
    (case c19 => k_is)
    (case k19 => k_is)
    (case a20 => k_is)
    (case l20 => k_is)
    (case c20 => k_is)
    (case k20 => k_is)
    (case a21 => k_is)
    (case l21 => k_is)
    (case c21 => k_is)
    (case k21 => k_is)
    (case a22 => k_is)
    (case l22 => k_is)
    (case c22 => k_is)
    (case k22 => k_is)
    (case a23 => k_is)
    (case l23 => k_is)
    (case c23 => k_is)
    (case k23 => k_is)
    (case a24 => k_is)
    (case l24 => k_is)
    (case c24 => k_is)
    (case k24 => k_is)
    (case a25 => k_is)
    (case l25 => k_is)
    (case c25 => k_is)
    (case k25 => k_is)
    (case a26 => k_is)
    (case l26 => k_is)
    (case c26 => k_is)
    (case k26 => k_is)
    (case a27 => k_is)
    (case l27 => k_is)
    (case c27 => k_is)
    (case k27 => k_is)
    (case a28 => k_is)
    (case l28 => k_is)
    (case c28 => k_is)
    (case k28 => k_is)
    (case oa_Walk => k_is)
    (case ma_Walk___init__ => k_is)
    (case mi_Walk___init__ => k_is)
    (case ml_Walk___init__ => k_is)
    (case mc_Walk___init__ => k_is)
    (case mk_Walk___init__ => k_is)
    (case ma_Walk_meet => k_is)
    (case mi_Walk_meet => k_is)
    (case ml_Walk_meet => k_is)
    (case mc_Walk_meet => k_is)
    (case mk_Walk_meet => k_is)
    (case pg_Walk => k_is)
    (case hd_Walk => k_is)
    (case po_Walk => k_is)
    (case sa_Walk => k_is)
    (case mk_Walk => k_is)
    (case kc_Walk => k_is)
    (case na_Walk_met => k_is)
    (case na_Walk_numbers => k_is)
    (case na_Walk_ways => k_is)
    (case a_WideError => k_is)
    (case x_WideError => k_exc)
    (case k_WideError => k_is)
    (case e1_WideError => k_is)
    (case e2_WideError => k_is)
    (case e3_WideError => k_is)
    (case e4_WideError => k_is)
    (case e5_WideError => k_is)
    (case e6_WideError => k_is)
    (case e7_WideError => k_is)
    (case e8_WideError => k_is)
    (case e9_WideError => k_is)
    (case e10_WideError => k_is)
    (case e11_WideError => k_is)
    (case a_NoPair => k_is)
    (case x_NoPair => k_exc)
    (case k_NoPair => k_is)
    (case e1_NoPair => k_is)
    (case e2_NoPair => k_is)
    (case e3_NoPair => k_is)
    (case e4_NoPair => k_is)
    (case e5_NoPair => k_is)
    (case e6_NoPair => k_is)
    (case e7_NoPair => k_is)
    (case e8_NoPair => k_is)
    (case e9_NoPair => k_is)
    (case e10_NoPair => k_is)
    (case e11_NoPair => k_is)
    (case s_WideError_WideError => k_is)
    (case s_WideError_NoPair => k_is)
    (case s_NoPair_WideError => k_is)
    (case s_NoPair_NoPair => k_is)
    (case z_abs => k_is)
    (case z_enumerate => k_is)
    (case z_int => k_is)
    (case z_len => k_is)
    (case z_list => k_is)
    (case z_max => k_is)
    (case z_range => k_is)
    (case z_repr => k_is)
    (case z_sum => k_is)
    (case z_tuple => k_is)
    (case z_zip => k_is)
